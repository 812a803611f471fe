/- The functions compute what their models say. -/
import Derived.Test.YtjmaadoeholmiabKLinksOfMoreC3
set_option linter.unusedVariables false
set_option linter.unusedSimpArgs false
set_option maxRecDepth 20000
namespace Go.Vs
open Go Go.Proofs
attribute [local irreducible] Code.wp Code.wpIn wpList wpListIn wpQuiet Calls CallsIn

theorem c_spec_LinksOf {list_0 : List (Int × (List Int) × Int)} {kind_1 : Int} {many_2 : Int} {alist_0 : Option Addr} {clist_0 : Nat} {r : (List (List Int))} (h : M.spec_LinksOf list_0 kind_1 many_2 = some r) :
    Cal2 Try.prog 25 [(Sl alist_0 list_0 clist_0), (I kind_1), (I many_2)] [Ch.ro 0 (Sl alist_0 list_0 clist_0) list_0] (fun n0 v L => ∃ (az1 : Option Addr), ∃ (cz2 : Nat), v = (Sl az1 r cz2) ∧ L = [Ch.own n0 n0 (Sl az1 r cz2) r]) := by
 refine cal2 (n := 24) Try.func25 rfl rfl rfl rfl ?_
 intro S0 σ0 n0 hn0 H
 unfold M.spec_LinksOf at h
 refine c_seq ?_
 refine rg ?_
 refine st (v := (.slice none 0 0)) (rv_assign rfl) ?_
 refine w_end ?_
 refine q_then ?_
 refine c_seq ?_
 refine c_seq ?_
 obtain ⟨o1, hj, h'⟩ := bind_some h
 clear h
 refine c_cut (fun e a w => e = .normal ∧ ∃ (ρ : Nat → Value) (σ : St), a = fr 24 (updL ρ [(0, (Sl alist_0 list_0 clist_0)), (1, (I kind_1)), (2, (I many_2)), (19, (B o1))]) ∧ w = σ.w ∧ Hp S0 σ0 σ [Ch.ro 0 (Sl alist_0 list_0 clist_0) list_0]) ?_ ?_
 ·clear h'
  rename _ = some o1 => h
  refine rg ?_
  refine st (v := (Sl alist_0 list_0 clist_0)) (rv_move rfl) ?_
  obtain ⟨r2, hx3, h'⟩ := bind_some h
  clear h
  have h := h'; clear h'
  have hc4 := c_spec_validStore (alist_0 := alist_0) (clist_0 := clist_0) hx3
  refine st_call (cx_call hc4 (ent_f hc4.fn rfl) hn0 (show Hp S0 σ0 _ ([Ch.ro 0 (Sl alist_0 list_0 clist_0) list_0] ++ [Ch.ro 0 (Sl alist_0 list_0 clist_0) list_0]) from (H.sel' [0, 0] rfl rfl))) wn ?_
  rintro _ σ5 ⟨_, ⟨rfl, rfl⟩, H, -⟩
  replace H : Hp S0 σ0 σ5 [Ch.ro 0 (Sl alist_0 list_0 clist_0) list_0] := H
  refine st (v := (B (!r2))) (rv_not rfl) ?_
  refine st (v := (B (!r2))) (rv_move rfl) ?_
  rcases Bool.eq_false_or_eq_true (!r2) with hb6 | hb6
  ·replace h := bif_t hb6 h
   refine st_skip (congrArg some hb6) ?_
   refine st_skip (congrArg some hb6) ?_
   refine st_skip (congrArg some hb6) ?_
   refine st (v := (B true)) (rv_pick_t (congrArg B hb6) rfl) ?_
   refine st (v := (B true)) (rv_move rfl) ?_
   refine st_skip rfl ?_
   refine st_skip rfl ?_
   refine st_skip rfl ?_
   refine st (v := (B true)) (rv_pick_t rfl rfl) ?_
   refine w_end ?_
   obtain rfl := Option.some.inj h
   exact ⟨rfl, _, σ5, fr_join ⟨rfl, rfl, rfl, rfl, trivial⟩, rfl, H.sel' [0] rfl rfl⟩
  ·replace h := bif_f hb6 h
   refine st_g (v := (I kind_1)) (congrArg some hb6) (rv_move rfl) ?_
   obtain ⟨r7, hx8, h'⟩ := bind_some h
   clear h
   have h := h'; clear h'
   have hc9 := c_spec_validKind hx8
   refine st_call (cx_call hc9 (ent_f hc9.fn rfl) hn0 (show Hp S0 σ0 _ ([] ++ [Ch.ro 0 (Sl alist_0 list_0 clist_0) list_0]) from (H.sel' [0] rfl rfl))) (wanted_yes rfl (by exact (congrArg some hb6))) ?_
   rintro _ σ10 ⟨_, ⟨rfl, rfl⟩, H, -⟩
   replace H : Hp S0 σ0 σ10 [Ch.ro 0 (Sl alist_0 list_0 clist_0) list_0] := H
   refine st_g (v := (B (!r7))) (congrArg some hb6) (rv_not rfl) ?_
   refine st (v := (B (!r7))) (rv_pick_f (congrArg B hb6) rfl) ?_
   refine st (v := (B (!r7))) (rv_move rfl) ?_
   rcases Bool.eq_false_or_eq_true (!r7) with hb11 | hb11
   ·replace h := bif_t hb11 h
    refine st_skip (congrArg some hb11) ?_
    refine st_skip (congrArg some hb11) ?_
    refine st_skip (congrArg some hb11) ?_
    refine st (v := (B true)) (rv_pick_t (congrArg B hb11) rfl) ?_
    refine w_end ?_
    obtain rfl := Option.some.inj h
    exact ⟨rfl, _, σ10, fr_join ⟨rfl, rfl, rfl, rfl, trivial⟩, rfl, H.sel' [0] rfl rfl⟩
   ·replace h := bif_f hb11 h
    refine st_g (v := (I many_2)) (congrArg some hb11) (rv_move rfl) ?_
    obtain ⟨r12, hx13, h'⟩ := bind_some h
    clear h
    have h := h'; clear h'
    have hc14 := c_spec_inRange hx13
    refine st_call (cx_call hc14 (ent_f hc14.fn rfl) hn0 (show Hp S0 σ0 _ ([] ++ [Ch.ro 0 (Sl alist_0 list_0 clist_0) list_0]) from (H.sel' [0] rfl rfl))) (wanted_yes rfl (by exact (congrArg some hb11))) ?_
    rintro _ σ15 ⟨_, ⟨rfl, rfl⟩, H, -⟩
    replace H : Hp S0 σ0 σ15 [Ch.ro 0 (Sl alist_0 list_0 clist_0) list_0] := H
    refine st_g (v := (B (!r12))) (congrArg some hb11) (rv_not rfl) ?_
    refine st (v := (B (!r12))) (rv_pick_f (congrArg B hb11) rfl) ?_
    refine w_end ?_
    obtain rfl := Option.some.inj h
    exact ⟨rfl, _, σ15, fr_join ⟨rfl, rfl, rfl, rfl, trivial⟩, rfl, H.sel' [0] rfl rfl⟩
 ·clear hj
  have h := h'
  clear h' H
  rintro e a w ⟨rfl, ρ, σ16, rfl, rfl, H⟩
  refine q_then ?_
  refine cd_cond o1 rfl (fun hb17 => ?_) (fun hb17 => ?_)
  ·replace h := bif_t hb17 h
   refine c_seq ?_
   refine rg ?_
   refine st (v := (.slice none 0 0)) (rv_assign rfl) ?_
   refine w_end ?_
   refine q_then ?_
   refine c_ret ?_
   refine q_then_r ?_
   replace H := H.nilOwn (List Int) n0 n0
   obtain rfl := Option.some.inj h
   exact fin_ret (v := (.slice none 0 0)) (results_ok Try.results25 (res_tmp (v := (.slice none 0 0)) rfl res_nil) rfl) ⟨none, 0, rfl, rfl⟩ (H.sel' [0] rfl rfl)
  ·replace h := bif_f hb17 h
   refine c_skip ?_
   refine q_then ?_
   refine c_seq ?_
   refine rg ?_
   refine st (v := (Sl alist_0 list_0 clist_0)) (rv_move rfl) ?_
   refine st (v := (I kind_1)) (rv_move rfl) ?_
   refine st (v := (I many_2)) (rv_move rfl) ?_
   obtain ⟨r18, hx19, h'⟩ := bind_some h
   clear h
   have h := h'; clear h'
   have hc20 := c_spec_links (alist_0 := alist_0) (clist_0 := clist_0) hx19
   refine st_call (cx_call hc20 (ent_f hc20.fn rfl) hn0 (show Hp S0 σ0 _ ([Ch.ro 0 (Sl alist_0 list_0 clist_0) list_0] ++ [Ch.ro 0 (Sl alist_0 list_0 clist_0) list_0]) from (H.sel' [0, 0] rfl rfl))) wn ?_
   rintro _ σ23 ⟨_, ⟨a21, c22, rfl, rfl⟩, H, -⟩
   replace H : Hp S0 σ0 σ23 [Ch.own n0 n0 (Sl a21 r18 c22) r18, Ch.ro 0 (Sl alist_0 list_0 clist_0) list_0] := H
   refine st (v := (Sl a21 r18 c22)) (rv_assign rfl) ?_
   refine w_end ?_
   refine q_then ?_
   refine c_ret ?_
   obtain rfl := Option.some.inj h
   exact fin_ret (v := (Sl a21 r18 c22)) (results_ok Try.results25 (res_tmp (v := (Sl a21 r18 c22)) rfl res_nil) rfl) ⟨a21, c22, rfl, rfl⟩ (H.sel' [0] rfl rfl)

theorem c_laws_FnLinksOfMore {code_0 : List UInt8} {acode_0 : Option Addr} {ccode_0 : Nat} {r : Bool} (h : M.laws_FnLinksOfMore code_0 = some r) :
    Cal2 Try.prog 7 [(Sl acode_0 code_0 ccode_0)] [Ch.ro 0 (Sl acode_0 code_0 ccode_0) code_0] (fun n0 v L => v = (B r) ∧ L = []) := by
 refine cal2 (n := 95) Try.func7 rfl rfl rfl rfl ?_
 intro S0 σ0 n0 hn0 H
 unfold M.laws_FnLinksOfMore at h
 refine c_seq ?_
 refine rg ?_
 refine st (v := (B false)) (rv_assign rfl) ?_
 refine w_end ?_
 refine q_then ?_
 refine c_seq ?_
 refine c_seq ?_
 refine rg ?_
 refine st (v := (Sl acode_0 code_0 ccode_0)) (rv_move rfl) ?_
 refine st (v := (I (code_0.length : Int))) (rv_len Try.underlying22 rfl) ?_
 refine st (v := (B (decide (1048576 < (code_0.length : Int))))) (rv_gtr (a := (code_0.length : Int)) (b := 1048576) rfl rfl) ?_
 refine w_end ?_
 refine q_then ?_
 refine cd_cond (decide (1048576 < (code_0.length : Int))) rfl (fun hb1 => ?_) (fun hb1 => ?_)
 ·replace h := bif_t hb1 h
  refine c_seq ?_
  refine rg ?_
  refine st (v := (B true)) (rv_assign rfl) ?_
  refine w_end ?_
  refine q_then ?_
  refine c_ret ?_
  refine q_then_r ?_
  obtain rfl := Option.some.inj h
  exact fin_ret (v := (B true)) (results_ok Try.results7 (res_tmp (v := (B true)) rfl res_nil) rfl) ⟨rfl, rfl⟩ (H.sel' [] rfl rfl)
 ·replace h := bif_f hb1 h
  refine c_skip ?_
  refine q_then ?_
  refine c_seq ?_
  refine rg ?_
  refine st (v := (Sl acode_0 code_0 ccode_0)) (rv_move rfl) ?_
  obtain ⟨r2, hx3, h'⟩ := bind_some h
  clear h
  have h := h'; clear h'
  have hc4 := c_spec_DrawLinksOf (acode_0 := acode_0) (ccode_0 := ccode_0) hx3
  refine st_call (cx_call hc4 (ent_f hc4.fn rfl) hn0 (show Hp S0 σ0 _ ([Ch.ro 0 (Sl acode_0 code_0 ccode_0) code_0] ++ [Ch.ro 0 (Sl acode_0 code_0 ccode_0) code_0]) from (H.sel' [0, 0] rfl rfl))) wn ?_
  rintro _ σ7 ⟨_, ⟨a5, c6, rfl, rfl⟩, H, -⟩
  replace H : Hp S0 σ0 σ7 [Ch.own n0 n0 (Sl a5 r2.1 c6) r2.1, Ch.ro 0 (Sl acode_0 code_0 ccode_0) code_0] := H
  refine st (v := (.tuple #[(Sl a5 r2.1 c6), (I r2.2.1), (I r2.2.2)])) (rv_move rfl) ?_
  refine st (v := (Sl a5 r2.1 c6)) (rv_extract rfl rfl) ?_
  refine st (v := (I r2.2.1)) (rv_extract rfl rfl) ?_
  refine st (v := (I r2.2.2)) (rv_extract rfl rfl) ?_
  refine st (v := (Sl a5 r2.1 c6)) (rv_assign rfl) ?_
  refine st (v := (I r2.2.1)) (rv_assign rfl) ?_
  refine st (v := (I r2.2.2)) (rv_assign rfl) ?_
  refine w_end ?_
  refine q_then ?_
  refine c_seq ?_
  refine rg ?_
  refine st (v := (Sl a5 r2.1 c6)) (rv_move rfl) ?_
  refine st (v := (I r2.2.1)) (rv_move rfl) ?_
  refine st (v := (I r2.2.2)) (rv_move rfl) ?_
  obtain ⟨r8, hx9, h'⟩ := bind_some h
  clear h
  have h := h'; clear h'
  have hc10 := c_impl_LinksOf (alist_0 := a5) (clist_0 := c6) hx9
  have hle := Nat.le_trans hn0 H.size
  refine st_call (cx_lend (Loan.lend Loan.nil) hc10 (ent_f hc10.fn rfl) (show Hp S0 σ0 _ ([Ch.own n0 n0 (Sl a5 r2.1 c6) r2.1] ++ ([] ++ [Ch.ro 0 (Sl acode_0 code_0 ccode_0) code_0])) from (H.sel' [0, 1] rfl rfl)) (by rintro _ _ _ ⟨_, _, rfl, rfl, _⟩; exact ⟨Ab.own (Nat.le_refl _), trivial⟩)) wn ?_
  rintro _ σ14 ⟨_, ⟨a11, c12, rfl, rfl, ht13⟩, H, -, -⟩
  replace H : Hp S0 σ0 σ14 [Ch.own σ7.size σ7.size (Sl a11 r8 c12) r8, Ch.own n0 n0 (Sl a5 r2.1 c6) r2.1, Ch.ro 0 (Sl acode_0 code_0 ccode_0) code_0] := H
  replace H := H.ownLow 0 n0 n0 rfl hle hle
  clear hle
  replace H : Hp S0 σ0 σ14 [Ch.own n0 n0 (Sl a11 r8 c12) r8, Ch.own n0 n0 (Sl a5 r2.1 c6) r2.1, Ch.ro 0 (Sl acode_0 code_0 ccode_0) code_0] := H
  refine st (v := (Sl a11 r8 c12)) (rv_assign rfl) ?_
  refine w_end ?_
  refine q_then ?_
  refine c_seq ?_
  refine c_seq ?_
  obtain ⟨o15, hj, h'⟩ := bind_some h
  clear h
  refine c_cut (fun e a w => e = .normal ∧ ∃ (ρ : Nat → Value) (σ : St), a = fr 95 (updL ρ [(3, (Sl a5 r2.1 c6)), (4, (I r2.2.1)), (5, (I r2.2.2)), (6, (Sl a11 r8 c12)), (37, (B o15))]) ∧ w = σ.w ∧ Hp S0 σ0 σ [Ch.own n0 n0 (Sl a5 r2.1 c6) r2.1, Ch.own n0 n0 (Sl a11 r8 c12) r8]) ?_ ?_
  ·clear h'
   rename _ = some o15 => h
   refine rg ?_
   refine st (v := (Sl a11 r8 c12)) (rv_move rfl) ?_
   refine st (v := (Sl a5 r2.1 c6)) (rv_move rfl) ?_
   refine st (v := (I r2.2.1)) (rv_move rfl) ?_
   refine st (v := (I r2.2.2)) (rv_move rfl) ?_
   obtain ⟨r16, hx17, h'⟩ := bind_some h
   clear h
   have h := h'; clear h'
   have hc18 := c_spec_LinksOf (alist_0 := a5) (clist_0 := c6) hx17
   have hle := Nat.le_trans hn0 H.size
   refine st_call (cx_lend (Loan.lend Loan.nil) hc18 (ent_f hc18.fn rfl) (show Hp S0 σ0 _ ([Ch.own n0 n0 (Sl a5 r2.1 c6) r2.1] ++ ([] ++ [Ch.own n0 n0 (Sl a11 r8 c12) r8, Ch.ro 0 (Sl acode_0 code_0 ccode_0) code_0])) from (H.sel' [1, 0, 2] rfl rfl)) (by rintro _ _ _ ⟨_, _, rfl, rfl⟩; exact ⟨Ab.own (Nat.le_refl _), trivial⟩)) wn ?_
   rintro _ σ21 ⟨_, ⟨a19, c20, rfl, rfl⟩, H, -, -⟩
   replace H : Hp S0 σ0 σ21 [Ch.own σ14.size σ14.size (Sl a19 r16 c20) r16, Ch.own n0 n0 (Sl a5 r2.1 c6) r2.1, Ch.own n0 n0 (Sl a11 r8 c12) r8, Ch.ro 0 (Sl acode_0 code_0 ccode_0) code_0] := H
   replace H := H.ownLow 0 n0 n0 rfl hle hle
   clear hle
   replace H : Hp S0 σ0 σ21 [Ch.own n0 n0 (Sl a19 r16 c20) r16, Ch.own n0 n0 (Sl a5 r2.1 c6) r2.1, Ch.own n0 n0 (Sl a11 r8 c12) r8, Ch.ro 0 (Sl acode_0 code_0 ccode_0) code_0] := H
   obtain ⟨σ22, hw23, H, -⟩ := H.pub 0 rfl (Nat.le_refl _)
   rw [← hw23]; clear hw23
   replace H := H.roLow 0 0 rfl (Nat.zero_le _)
   obtain ⟨r24, hx25, h'⟩ := bind_some h
   clear h
   have h := h'; clear h'
   have hc26 := c_laws_equalLists (aa_0 := a11) (ca_0 := c12) (ab_1 := a19) (cb_1 := c20) hx25
   have hle := Nat.le_trans hn0 H.size
   refine st_call (cx_lend (Loan.lend (Loan.same Loan.nil)) hc26 (ent_f hc26.fn rfl) (show Hp S0 σ0 _ ([Ch.own n0 n0 (Sl a11 r8 c12) r8] ++ ([Ch.ro 0 (Sl a19 r16 c20) r16] ++ [Ch.ro 0 (Sl a19 r16 c20) r16, Ch.ro n0 (Sl a19 r16 c20) r16, Ch.own n0 n0 (Sl a5 r2.1 c6) r2.1, Ch.ro 0 (Sl acode_0 code_0 ccode_0) code_0])) from (H.sel' [3, 0, 0, 1, 2, 4] rfl rfl)) (by rintro _ _ _ ⟨rfl, rfl⟩; exact trivial)) wn ?_
   rintro _ σ27 ⟨_, ⟨rfl, rfl⟩, H, -, -⟩
   replace H : Hp S0 σ0 σ27 [Ch.own n0 n0 (Sl a11 r8 c12) r8, Ch.ro 0 (Sl a19 r16 c20) r16, Ch.ro n0 (Sl a19 r16 c20) r16, Ch.own n0 n0 (Sl a5 r2.1 c6) r2.1, Ch.ro 0 (Sl acode_0 code_0 ccode_0) code_0] := H
   clear hle
   replace H : Hp S0 σ0 σ27 [Ch.own n0 n0 (Sl a11 r8 c12) r8, Ch.ro 0 (Sl a19 r16 c20) r16, Ch.ro n0 (Sl a19 r16 c20) r16, Ch.own n0 n0 (Sl a5 r2.1 c6) r2.1, Ch.ro 0 (Sl acode_0 code_0 ccode_0) code_0] := H
   refine st (v := (B (!r24))) (rv_not rfl) ?_
   refine st (v := (B (!r24))) (rv_move rfl) ?_
   rcases Bool.eq_false_or_eq_true (!r24) with hb28 | hb28
   ·replace h := bif_t hb28 h
    refine st_skip (congrArg some hb28) ?_
    refine st_skip (congrArg some hb28) ?_
    refine st_skip (congrArg some hb28) ?_
    refine st (v := (B true)) (rv_pick_t (congrArg B hb28) rfl) ?_
    refine st (v := (B true)) (rv_move rfl) ?_
    refine st_skip rfl ?_
    refine st_skip rfl ?_
    refine st (v := (B true)) (rv_pick_t rfl rfl) ?_
    refine w_end ?_
    obtain rfl := Option.some.inj h
    exact ⟨rfl, _, σ27, fr_join ⟨rfl, rfl, rfl, rfl, rfl, trivial⟩, rfl, H.sel' [3, 0] rfl rfl⟩
   ·replace h := bif_f hb28 h
    refine st_g (v := (Sl a11 r8 c12)) (congrArg some hb28) (rv_move rfl) ?_
    refine st_g (v := (I (r8.length : Int))) (congrArg some hb28) (rv_len Try.underlying44 rfl) ?_
    refine st_g (v := (B ((r8.length : Int) == 0))) (congrArg some hb28) (rv_eql (a := (r8.length : Int)) (b := 0) rfl rfl) ?_
    refine st (v := (B ((r8.length : Int) == 0))) (rv_pick_f (congrArg B hb28) rfl) ?_
    refine st (v := (B ((r8.length : Int) == 0))) (rv_move rfl) ?_
    rcases Bool.eq_false_or_eq_true ((r8.length : Int) == 0) with hb29 | hb29
    ·replace h := bif_t hb29 h
     refine st_skip (congrArg some hb29) ?_
     refine st_skip (congrArg some hb29) ?_
     refine st (v := (B true)) (rv_pick_t (congrArg B hb29) rfl) ?_
     refine w_end ?_
     obtain rfl := Option.some.inj h
     exact ⟨rfl, _, σ27, fr_join ⟨rfl, rfl, rfl, rfl, rfl, trivial⟩, rfl, H.sel' [3, 0] rfl rfl⟩
    ·replace h := bif_f hb29 h
     refine st_g (v := (I r2.2.2)) (congrArg some hb29) (rv_move rfl) ?_
     refine st_g (v := (B (r2.2.2 == 5))) (congrArg some hb29) (rv_eql (a := r2.2.2) (b := 5) rfl rfl) ?_
     refine st (v := (B (r2.2.2 == 5))) (rv_pick_f (congrArg B hb29) rfl) ?_
     refine w_end ?_
     obtain rfl := Option.some.inj h
     exact ⟨rfl, _, σ27, fr_join ⟨rfl, rfl, rfl, rfl, rfl, trivial⟩, rfl, H.sel' [3, 0] rfl rfl⟩
  ·clear hj
   have h := h'
   clear h' H
   rintro e a w ⟨rfl, ρ, σ30, rfl, rfl, H⟩
   refine q_then ?_
   refine cd_cond o15 rfl (fun hb31 => ?_) (fun hb31 => ?_)
   ·replace h := bif_t hb31 h
    refine c_seq ?_
    refine rg ?_
    refine st (v := (Sl a11 r8 c12)) (rv_move rfl) ?_
    refine st (v := (Sl a5 r2.1 c6)) (rv_move rfl) ?_
    refine st (v := (I r2.2.1)) (rv_move rfl) ?_
    refine st (v := (I r2.2.2)) (rv_move rfl) ?_
    obtain ⟨σ32, hw33, H, -⟩ := H.pub 0 rfl (Nat.le_refl _)
    rw [← hw33]; clear hw33
    replace H := H.roLow 0 0 rfl (Nat.zero_le _)
    obtain ⟨r34, hx35, h'⟩ := bind_some h
    clear h
    have h := h'; clear h'
    have hc36 := c_spec_LinksOf (alist_0 := a5) (clist_0 := c6) hx35
    refine st_call (cx_call hc36 (ent_f hc36.fn rfl) hn0 (show Hp S0 σ0 _ ([Ch.ro 0 (Sl a5 r2.1 c6) r2.1] ++ [Ch.ro 0 (Sl a5 r2.1 c6) r2.1, Ch.ro n0 (Sl a5 r2.1 c6) r2.1, Ch.own n0 n0 (Sl a11 r8 c12) r8]) from (H.sel' [0, 0, 1, 2] rfl rfl))) wn ?_
    rintro _ σ39 ⟨_, ⟨a37, c38, rfl, rfl⟩, H, -⟩
    replace H : Hp S0 σ0 σ39 [Ch.own n0 n0 (Sl a37 r34 c38) r34, Ch.ro 0 (Sl a5 r2.1 c6) r2.1, Ch.ro n0 (Sl a5 r2.1 c6) r2.1, Ch.own n0 n0 (Sl a11 r8 c12) r8] := H
    obtain ⟨σ40, hw41, H, -⟩ := H.pub 3 rfl (Nat.le_refl _)
    rw [← hw41]; clear hw41
    obtain ⟨σ42, hw43, H, -⟩ := H.pub 1 rfl (Nat.le_refl _)
    rw [← hw43]; clear hw43
    replace H := H.roLow 1 0 rfl (Nat.zero_le _)
    replace H := H.roLow 1 0 rfl (Nat.zero_le _)
    obtain ⟨r44, hx45, h'⟩ := bind_some h
    clear h
    have h := h'; clear h'
    have hc46 := c_laws_equalLists (aa_0 := a11) (ca_0 := c12) (ab_1 := a37) (cb_1 := c38) hx45
    refine st_call (cx_call hc46 (ent_f hc46.fn rfl) hn0 (show Hp S0 σ0 _ ([Ch.ro 0 (Sl a11 r8 c12) r8, Ch.ro 0 (Sl a37 r34 c38) r34] ++ [Ch.ro 0 (Sl a37 r34 c38) r34, Ch.ro 0 (Sl a11 r8 c12) r8, Ch.ro n0 (Sl a37 r34 c38) r34, Ch.ro n0 (Sl a11 r8 c12) r8, Ch.ro 0 (Sl a5 r2.1 c6) r2.1, Ch.ro n0 (Sl a5 r2.1 c6) r2.1]) from (H.sel' [1, 0, 0, 1, 2, 3, 4, 5] rfl rfl))) wn ?_
    rintro _ σ47 ⟨_, ⟨rfl, rfl⟩, H, -⟩
    replace H : Hp S0 σ0 σ47 [Ch.ro 0 (Sl a37 r34 c38) r34, Ch.ro 0 (Sl a11 r8 c12) r8, Ch.ro n0 (Sl a37 r34 c38) r34, Ch.ro n0 (Sl a11 r8 c12) r8, Ch.ro 0 (Sl a5 r2.1 c6) r2.1, Ch.ro n0 (Sl a5 r2.1 c6) r2.1] := H
    refine st (v := (B r44)) (rv_assign rfl) ?_
    refine w_end ?_
    refine q_then ?_
    refine c_ret ?_
    refine q_then_r ?_
    obtain rfl := Option.some.inj h
    exact fin_ret (v := (B r44)) (results_ok Try.results7 (res_tmp (v := (B r44)) rfl res_nil) rfl) ⟨rfl, rfl⟩ (H.sel' [] rfl rfl)
   ·replace h := bif_f hb31 h
    refine c_skip ?_
    refine q_then ?_
    refine c_seq ?_
    refine rg ?_
    refine st (v := (Sl a5 r2.1 c6)) (rv_move rfl) ?_
    refine st (v := (I r2.2.1)) (rv_move rfl) ?_
    refine st (v := (I r2.2.2)) (rv_move rfl) ?_
    refine st (v := (I (w64 (r2.2.2 + 1)))) (rv_add (a := r2.2.2) (b := 1) rfl rfl) ?_
    obtain ⟨σ48, hw49, H, -⟩ := H.pub 0 rfl (Nat.le_refl _)
    rw [← hw49]; clear hw49
    replace H := H.roLow 0 0 rfl (Nat.zero_le _)
    obtain ⟨r50, hx51, h'⟩ := bind_some h
    clear h
    have h := h'; clear h'
    have hc52 := c_impl_LinksOf (alist_0 := a5) (clist_0 := c6) hx51
    refine st_call (cx_call hc52 (ent_f hc52.fn rfl) hn0 (show Hp S0 σ0 _ ([Ch.ro 0 (Sl a5 r2.1 c6) r2.1] ++ [Ch.ro 0 (Sl a5 r2.1 c6) r2.1, Ch.ro n0 (Sl a5 r2.1 c6) r2.1, Ch.own n0 n0 (Sl a11 r8 c12) r8]) from (H.sel' [0, 0, 1, 2] rfl rfl))) wn ?_
    rintro _ σ56 ⟨_, ⟨a53, c54, rfl, rfl, ht55⟩, H, -⟩
    replace H : Hp S0 σ0 σ56 [Ch.own n0 n0 (Sl a53 r50 c54) r50, Ch.ro 0 (Sl a5 r2.1 c6) r2.1, Ch.ro n0 (Sl a5 r2.1 c6) r2.1, Ch.own n0 n0 (Sl a11 r8 c12) r8] := H
    refine st (v := (Sl a53 r50 c54)) (rv_assign rfl) ?_
    refine w_end ?_
    refine q_then ?_
    refine c_seq ?_
    refine c_seq ?_
    refine rg ?_
    refine st (v := (I 0)) (rv_assign rfl) ?_
    refine w_end ?_
    refine q_then ?_
    obtain ⟨o57, hj, h'⟩ := bind_some h
    clear h
    refine c_cut (fun e a w => (∃ t, o57 = (.inl t) ∧ e = .normal ∧ ∃ (ρ : Nat → Value) (σ : St), a = fr 95 (updL ρ [(6, (Sl a11 r8 c12)), (7, (Sl a53 r50 c54))]) ∧ w = σ.w ∧ Hp S0 σ0 σ [Ch.own n0 n0 (Sl a11 r8 c12) r8, Ch.own n0 n0 (Sl a53 r50 c54) r50]) ∨ (∃ t, o57 = (.inr t) ∧ e = .ret ∧ ∃ (ρ : Nat → Value) (σ : St), a = fr 95 (updL ρ [(2, (B t))]) ∧ w = σ.w ∧ Hp S0 σ0 σ [])) ?_ ?_
    ·clear h'
     rename _ = some o57 => h
     refine c_blk ?_
     refine wp_loopM _ h (fun s58 a w => ∃ (ρ : Nat → Value) (σ : St), a = fr 95 (updL ρ [(6, (Sl a11 r8 c12)), (7, (Sl a53 r50 c54)), (8, (I s58))]) ∧ w = σ.w ∧ Hp S0 σ0 σ [Ch.own n0 n0 (Sl a11 r8 c12) r8, Ch.own n0 n0 (Sl a53 r50 c54) r50]) ⟨_, σ56, fr_join ⟨rfl, rfl, rfl, trivial⟩, rfl, H.sel' [3, 0] rfl rfl⟩ ?_
     clear h H
     rintro s58 a w o ⟨ρ, σ59, rfl, rfl, H⟩ h hres
     refine c_seq ?_
     refine c_seq ?_
     refine rg ?_
     refine st (v := (I s58)) (rv_move rfl) ?_
     refine st (v := (Sl a11 r8 c12)) (rv_move rfl) ?_
     refine st (v := (I (r8.length : Int))) (rv_len Try.underlying44 rfl) ?_
     refine st (v := (B (decide (s58 < (r8.length : Int))))) (rv_lss (a := s58) (b := (r8.length : Int)) rfl rfl) ?_
     refine w_end ?_
     refine q_then ?_
     refine cd_cond (decide (s58 < (r8.length : Int))) rfl (fun hb60 => ?_) (fun hb60 => ?_)
     ·replace h := bif_t hb60 h
      refine c_skip ?_
      refine q_then ?_
      refine c_seq ?_
      refine c_blk ?_
      refine c_seq ?_
      obtain ⟨o61, hj, h'⟩ := bind_some h
      clear h
      refine c_cut (fun e a w => e = .normal ∧ ∃ (ρ : Nat → Value) (σ : St), a = fr 95 (updL ρ [(6, (Sl a11 r8 c12)), (7, (Sl a53 r50 c54)), (8, (I s58)), (89, (B o61))]) ∧ w = σ.w ∧ Hp S0 σ0 σ [Ch.own n0 n0 (Sl a11 r8 c12) r8, Ch.own n0 n0 (Sl a53 r50 c54) r50]) ?_ ?_
      ·clear h'
       rename _ = some o61 => h
       refine rgP (σ := σ59) 32 (by kernel_rfl) (by kernel_rfl) (by kernel_rfl) ?_
       refine sq (v := (I s58)) (rv_move rfl) ?_
       refine sq (v := (Sl a53 r50 c54)) (rv_move rfl) ?_
       refine sq (v := (I (r50.length : Int))) (rv_len Try.underlying44 rfl) ?_
       refine sq (v := (B (decide ((r50.length : Int) ≤ s58)))) (rv_geq (a := s58) (b := (r50.length : Int)) rfl rfl) ?_
       refine sq (v := (B (decide ((r50.length : Int) ≤ s58)))) (rv_move rfl) ?_
       rcases Bool.eq_false_or_eq_true (decide ((r50.length : Int) ≤ s58)) with hb62 | hb62
       ·replace h := bif_t hb62 h
        refine sq_skip (congrArg some hb62) ?_
        refine sq_skip (congrArg some hb62) ?_
        refine sq_skip (congrArg some hb62) ?_
        refine sq_skip (congrArg some hb62) ?_
        refine sq_skip (congrArg some hb62) ?_
        refine sq_skip (congrArg some hb62) ?_
        refine sq_skip (congrArg some hb62) ?_
        refine sq_skip (congrArg some hb62) ?_
        refine sq_skip (congrArg some hb62) ?_
        refine sq_skip (congrArg some hb62) ?_
        refine sq_skip (congrArg some hb62) ?_
        refine sq (v := (B true)) (rv_pick_t (congrArg B hb62) rfl) ?_
        refine sq (v := (B true)) (rv_move rfl) ?_
        refine sq_skip rfl ?_
        refine sq_skip rfl ?_
        refine sq_skip rfl ?_
        refine sq_skip rfl ?_
        refine sq_skip rfl ?_
        refine sq_skip rfl ?_
        refine sq_skip rfl ?_
        refine sq_skip rfl ?_
        refine sq_skip rfl ?_
        refine sq_skip rfl ?_
        refine sq_skip rfl ?_
        refine sq_skip rfl ?_
        refine sq_skip rfl ?_
        refine sq_skip rfl ?_
        refine sq_end ?_
        intro σ63 hm64
        replace H := H.grow (hm64.mono fun _ h => h); clear hm64
        refine st_skip rfl ?_
        refine st_skip rfl ?_
        refine st (v := (B true)) (rv_pick_t rfl rfl) ?_
        refine w_end ?_
        obtain rfl := Option.some.inj h
        exact ⟨rfl, _, σ63, fr_join ⟨rfl, rfl, rfl, rfl, trivial⟩, rfl, H.sel' [0, 1] rfl rfl⟩
       ·replace h := bif_f hb62 h
        refine sq_g (v := (Sl a53 r50 c54)) (congrArg some hb62) (rv_move rfl) ?_
        refine sq_g (v := (I s58)) (congrArg some hb62) (rv_move rfl) ?_
        obtain ⟨x65, hx66, h'⟩ := bind_some h
        clear h
        have h := h'; clear h'
        obtain ⟨b68, o69, hi67, -⟩ := (H.own 1 rfl).ix hx66
        refine sq_g (v := (pt b68 o69)) (congrArg some hb62) (rv_ix Try.underlying44 ti31 rfl rfl hi67) ?_
        obtain ⟨v73, hc74, hR72⟩ := ((H.own 1 rfl).at hx66 hi67).slice
        obtain ⟨a70, c71, rfl⟩ := hR72.isSl
        replace H := H.add (d := Ch.ro n0 (Sl a70 x65 c71) x65) hR72 (fun _ h => h)
        clear hR72
        refine sq_g (v := (Sl a70 x65 c71)) (congrArg some hb62) (rv_load1 Try.underlying31 rfl rfl hc74) ?_
        refine sq_g (v := (I (x65.length : Int))) (congrArg some hb62) (rv_len Try.underlying31 rfl) ?_
        refine sq_g (v := (Sl a11 r8 c12)) (congrArg some hb62) (rv_move rfl) ?_
        refine sq_g (v := (I s58)) (congrArg some hb62) (rv_move rfl) ?_
        obtain ⟨x75, hx76, h'⟩ := bind_some h
        clear h
        have h := h'; clear h'
        obtain ⟨b78, o79, hi77, -⟩ := (H.own 1 rfl).ix hx76
        refine sq_g (v := (pt b78 o79)) (congrArg some hb62) (rv_ix Try.underlying44 ti31 rfl rfl hi77) ?_
        obtain ⟨v83, hc84, hR82⟩ := ((H.own 1 rfl).at hx76 hi77).slice
        obtain ⟨a80, c81, rfl⟩ := hR82.isSl
        replace H := H.add (d := Ch.ro n0 (Sl a80 x75 c81) x75) hR82 (fun _ h => h)
        clear hR82
        refine sq_g (v := (Sl a80 x75 c81)) (congrArg some hb62) (rv_load1 Try.underlying31 rfl rfl hc84) ?_
        refine sq_g (v := (I (x75.length : Int))) (congrArg some hb62) (rv_len Try.underlying31 rfl) ?_
        refine sq_g (v := (B (decide ((x65.length : Int) < (x75.length : Int))))) (congrArg some hb62) (rv_lss (a := (x65.length : Int)) (b := (x75.length : Int)) rfl rfl) ?_
        refine sq (v := (B (decide ((x65.length : Int) < (x75.length : Int))))) (rv_pick_f (congrArg B hb62) rfl) ?_
        refine sq (v := (B (decide ((x65.length : Int) < (x75.length : Int))))) (rv_move rfl) ?_
        rcases Bool.eq_false_or_eq_true (decide ((x65.length : Int) < (x75.length : Int))) with hb85 | hb85
        ·replace h := bif_t hb85 h
         refine sq_skip (congrArg some hb85) ?_
         refine sq_skip (congrArg some hb85) ?_
         refine sq_skip (congrArg some hb85) ?_
         refine sq_skip (congrArg some hb85) ?_
         refine sq_skip (congrArg some hb85) ?_
         refine sq_skip (congrArg some hb85) ?_
         refine sq_skip (congrArg some hb85) ?_
         refine sq_skip (congrArg some hb85) ?_
         refine sq_skip (congrArg some hb85) ?_
         refine sq_skip (congrArg some hb85) ?_
         refine sq_skip (congrArg some hb85) ?_
         refine sq_skip (congrArg some hb85) ?_
         refine sq_skip (congrArg some hb85) ?_
         refine sq_skip (congrArg some hb85) ?_
         refine sq_end ?_
         intro σ86 hm87
         replace H := H.grow (hm87.mono fun _ h => h); clear hm87
         refine st_skip (congrArg some hb85) ?_
         refine st_skip (congrArg some hb85) ?_
         refine st (v := (B true)) (rv_pick_t (congrArg B hb85) rfl) ?_
         refine w_end ?_
         obtain rfl := Option.some.inj h
         exact ⟨rfl, _, σ86, fr_join ⟨rfl, rfl, rfl, rfl, trivial⟩, rfl, H.sel' [2, 3] rfl rfl⟩
        ·replace h := bif_f hb85 h
         refine sq_g (v := (Sl a53 r50 c54)) (congrArg some hb85) (rv_move rfl) ?_
         refine sq_g (v := (I s58)) (congrArg some hb85) (rv_move rfl) ?_
         obtain ⟨x88, hx89, h'⟩ := bind_some h
         clear h
         have h := h'; clear h'
         obtain ⟨b91, o92, hi90, -⟩ := (H.own 3 rfl).ix hx89
         refine sq_g (v := (pt b91 o92)) (congrArg some hb85) (rv_ix Try.underlying44 ti31 rfl rfl hi90) ?_
         obtain ⟨v96, hc97, hR95⟩ := ((H.own 3 rfl).at hx89 hi90).slice
         obtain ⟨a93, c94, rfl⟩ := hR95.isSl
         replace H := H.add (d := Ch.ro n0 (Sl a93 x88 c94) x88) hR95 (fun _ h => h)
         clear hR95
         refine sq_g (v := (Sl a93 x88 c94)) (congrArg some hb85) (rv_load1 Try.underlying31 rfl rfl hc97) ?_
         refine sq_g (v := (Sl a11 r8 c12)) (congrArg some hb85) (rv_move rfl) ?_
         refine sq_g (v := (I s58)) (congrArg some hb85) (rv_move rfl) ?_
         obtain ⟨x98, hx99, h'⟩ := bind_some h
         clear h
         have h := h'; clear h'
         obtain ⟨b101, o102, hi100, -⟩ := (H.own 3 rfl).ix hx99
         refine sq_g (v := (pt b101 o102)) (congrArg some hb85) (rv_ix Try.underlying44 ti31 rfl rfl hi100) ?_
         obtain ⟨v106, hc107, hR105⟩ := ((H.own 3 rfl).at hx99 hi100).slice
         obtain ⟨a103, c104, rfl⟩ := hR105.isSl
         replace H := H.add (d := Ch.ro n0 (Sl a103 x98 c104) x98) hR105 (fun _ h => h)
         clear hR105
         refine sq_g (v := (Sl a103 x98 c104)) (congrArg some hb85) (rv_load1 Try.underlying31 rfl rfl hc107) ?_
         refine sq_g (v := (I (x98.length : Int))) (congrArg some hb85) (rv_len Try.underlying31 rfl) ?_
         obtain ⟨xs108, hx109, h'⟩ := bind_some h
         clear h
         have h := h'; clear h'
         obtain ⟨a110, c111, hs112, hR113⟩ := (H.ro 1 rfl).slice hx109
         replace H := H.add (d := Ch.ro n0 (Sl a110 xs108 c111) xs108) hR113 (fun _ h => h)
         clear hR113
         refine sq_g (v := (Sl a110 xs108 c111)) (congrArg some hb85) (rv_slice_h Try.underlying31 ti3 hs112 rfl rfl) ?_
         refine sq_g (v := (Sl a11 r8 c12)) (congrArg some hb85) (rv_move rfl) ?_
         refine sq_g (v := (I s58)) (congrArg some hb85) (rv_move rfl) ?_
         obtain ⟨x114, hx115, h'⟩ := bind_some h
         clear h
         have h := h'; clear h'
         obtain ⟨b117, o118, hi116, -⟩ := (H.own 5 rfl).ix hx115
         refine sq_g (v := (pt b117 o118)) (congrArg some hb85) (rv_ix Try.underlying44 ti31 rfl rfl hi116) ?_
         obtain ⟨v122, hc123, hR121⟩ := ((H.own 5 rfl).at hx115 hi116).slice
         obtain ⟨a119, c120, rfl⟩ := hR121.isSl
         replace H := H.add (d := Ch.ro n0 (Sl a119 x114 c120) x114) hR121 (fun _ h => h)
         clear hR121
         refine sq_g (v := (Sl a119 x114 c120)) (congrArg some hb85) (rv_load1 Try.underlying31 rfl rfl hc123) ?_
         refine sq_end ?_
         intro σ124 hm125
         replace H := H.grow (hm125.mono fun _ h => h); clear hm125
         replace H := H.roLow 1 0 rfl (Nat.zero_le _)
         replace H := H.roLow 1 0 rfl (Nat.zero_le _)
         obtain ⟨r126, hx127, h'⟩ := bind_some h
         clear h
         have h := h'; clear h'
         have hc128 := c_laws_equalInts (aa_0 := a110) (ca_0 := c111) (ab_1 := a119) (cb_1 := c120) hx127
         refine st_call (cx_call hc128 (ent_f hc128.fn rfl) hn0 (show Hp S0 σ0 _ ([Ch.ro 0 (Sl a110 xs108 c111) xs108, Ch.ro 0 (Sl a119 x114 c120) x114] ++ [Ch.ro 0 (Sl a119 x114 c120) x114, Ch.ro 0 (Sl a110 xs108 c111) xs108, Ch.ro n0 (Sl a119 x114 c120) x114, Ch.ro n0 (Sl a110 xs108 c111) xs108, Ch.ro n0 (Sl a103 x98 c104) x98, Ch.ro n0 (Sl a93 x88 c94) x88, Ch.ro n0 (Sl a80 x75 c81) x75, Ch.ro n0 (Sl a70 x65 c71) x65, Ch.own n0 n0 (Sl a11 r8 c12) r8, Ch.own n0 n0 (Sl a53 r50 c54) r50]) from (H.sel' [1, 0, 0, 1, 2, 3, 4, 5, 6, 7, 8, 9] rfl rfl))) (wanted_yes rfl (by exact (congrArg some hb85))) ?_
         rintro _ σ129 ⟨_, ⟨rfl, rfl⟩, H, -⟩
         replace H : Hp S0 σ0 σ129 [Ch.ro 0 (Sl a119 x114 c120) x114, Ch.ro 0 (Sl a110 xs108 c111) xs108, Ch.ro n0 (Sl a119 x114 c120) x114, Ch.ro n0 (Sl a110 xs108 c111) xs108, Ch.ro n0 (Sl a103 x98 c104) x98, Ch.ro n0 (Sl a93 x88 c94) x88, Ch.ro n0 (Sl a80 x75 c81) x75, Ch.ro n0 (Sl a70 x65 c71) x65, Ch.own n0 n0 (Sl a11 r8 c12) r8, Ch.own n0 n0 (Sl a53 r50 c54) r50] := H
         replace H : Hp S0 σ0 σ129 [Ch.own n0 n0 (Sl a11 r8 c12) r8, Ch.own n0 n0 (Sl a53 r50 c54) r50] := H.sel' [8, 9] rfl rfl
         refine st_g (v := (B (!r126))) (congrArg some hb85) (rv_not rfl) ?_
         refine st (v := (B (!r126))) (rv_pick_f (congrArg B hb85) rfl) ?_
         refine w_end ?_
         obtain rfl := Option.some.inj h
         exact ⟨rfl, _, σ129, fr_join ⟨rfl, rfl, rfl, rfl, trivial⟩, rfl, H.sel' [0, 1] rfl rfl⟩
      ·clear hj
       have h := h'
       clear h' H
       rintro e a w ⟨rfl, ρ, σ130, rfl, rfl, H⟩
       refine q_then ?_
       refine cd_cond o61 rfl (fun hb131 => ?_) (fun hb131 => ?_)
       ·replace h := bif_t hb131 h
        refine c_seq ?_
        refine rg ?_
        refine st (v := (B false)) (rv_assign rfl) ?_
        refine w_end ?_
        refine q_then ?_
        refine c_ret ?_
        refine q_blk_r ?_
        refine q_then_r ?_
        refine q_then_r ?_
        refine q_blk_r ?_
        obtain rfl := Option.some.inj h
        obtain rfl := hres _ rfl
        exact .inr (⟨_, rfl, rfl, _, σ130, fr_join ⟨rfl, trivial⟩, rfl, H.sel' [] rfl rfl⟩)
       ·replace h := bif_f hb131 h
        refine c_skip ?_
        refine q_blk ?_
        refine q_then ?_
        refine rg ?_
        refine st (v := (I s58)) (rv_move rfl) ?_
        refine st (v := (I (w64 (s58 + 1)))) (rv_add (a := s58) (b := 1) rfl rfl) ?_
        refine st (v := (I (w64 (s58 + 1)))) (rv_assign rfl) ?_
        refine w_end ?_
        refine q_then ?_
        obtain rfl := Option.some.inj h
        exact ⟨_, rfl, _, σ130, fr_join ⟨rfl, rfl, rfl, trivial⟩, rfl, H.sel' [0, 1] rfl rfl⟩
     ·replace h := bif_f hb60 h
      refine c_exit ?_
      refine q_then_x ?_
      refine q_then_x ?_
      refine q_blk_hit ?_
      obtain rfl := Option.some.inj h
      obtain rfl := hres _ rfl
      exact .inl ⟨_, rfl, rfl, _, σ59, fr_join ⟨rfl, rfl, trivial⟩, rfl, H.sel' [0, 1] rfl rfl⟩
    ·clear hj
     have h := h'
     clear h' H
     rintro e a w (⟨t132, rfl, rfl, ρ, σ133, rfl, rfl, H⟩ | ⟨t134, rfl, rfl, ρ, σ135, rfl, rfl, H⟩)
     ·replace h := selim_l h
      refine q_then ?_
      refine c_seq ?_
      refine rg ?_
      refine st (v := (Sl a53 r50 c54)) (rv_move rfl) ?_
      refine st (v := (I (r50.length : Int))) (rv_len Try.underlying44 rfl) ?_
      refine st (v := (Sl a11 r8 c12)) (rv_move rfl) ?_
      refine st (v := (I (r8.length : Int))) (rv_len Try.underlying44 rfl) ?_
      refine st (v := (B ((r50.length : Int) == (r8.length : Int)))) (rv_eql (a := (r50.length : Int)) (b := (r8.length : Int)) rfl rfl) ?_
      refine st (v := (B ((r50.length : Int) == (r8.length : Int)))) (rv_assign rfl) ?_
      refine w_end ?_
      refine q_then ?_
      refine c_ret ?_
      obtain rfl := Option.some.inj h
      exact fin_ret (v := (B ((r50.length : Int) == (r8.length : Int)))) (results_ok Try.results7 (res_tmp (v := (B ((r50.length : Int) == (r8.length : Int)))) rfl res_nil) rfl) ⟨rfl, rfl⟩ (H.sel' [] rfl rfl)
     ·replace h := selim_r h
      refine q_then_r ?_
      obtain rfl := Option.some.inj h
      exact fin_ret (v := (B t134)) (results_ok Try.results7 (res_tmp (v := (B t134)) rfl res_nil) rfl) ⟨rfl, rfl⟩ (H.sel' [] rfl rfl)

end Go.Vs
