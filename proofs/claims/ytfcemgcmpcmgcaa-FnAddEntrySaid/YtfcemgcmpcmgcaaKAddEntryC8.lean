/- The functions compute what their models say. -/
import Derived.Test.YtfcemgcmpcmgcaaKAddEntryC7
set_option linter.unusedVariables false
set_option linter.unusedSimpArgs false
set_option maxHeartbeats 2000000
set_option maxRecDepth 20000
namespace Go.Vs
open Go Go.Proofs
attribute [local irreducible] Code.wp Code.wpIn wpList wpListIn wpQuiet Calls CallsIn

theorem c_laws_FnAddEntry {Do : List UInt8} {Dq : Option Addr} {Dr : Nat} {r : Bool} (h : M.laws_FnAddEntry Do = some r) :
    Cal2 Try.prog 6 [(Sl Dq Do Dr)] [Ch.ro 0 (Sl Dq Do Dr) Do] (fun n0 v L => v = (B r) ∧ L = []) := by
 refine cal2 (n := 96) Try.func6 rfl rfl rfl rfl ?_
 intro S0 σ0 n0 hn0 H
 unfold M.laws_FnAddEntry at h
 refine c_seq (rg (sa (B false) rfl (w_end (q_then (c_seq (c_seq (rg (sm (Sl Dq Do Dr) rfl (st (v := (I (Do.length : Int))) (rv_len Try.underlying22 rfl) (st (v := (B (decide (1048576 < (Do.length : Int))))) (rv_gtr (a := (Do.length : Int)) (b := 1048576) rfl rfl) (w_end ?_)))))))))))
 refine q_then ?_
 refine cd_cond (decide (1048576 < (Do.length : Int))) rfl (fun hb1 => ?_) (fun hb1 => ?_)
 ·replace h := bif_t hb1 h
  refine c_seq (rg (sa (B true) rfl (w_end (q_then (c_ret (q_then_r ?_))))))
  obtain rfl := sj h
  exact fin_ret (v := (B true)) (results_ok Try.results6 (res_tmp (v := (B true)) rfl res_nil) rfl) ⟨rfl, rfl⟩ (H.sel' [] rfl rfl)
 ·replace h := bif_f hb1 h
  refine c_skip (q_then (c_seq (rg (sm (Sl Dq Do Dr) rfl ?_))))
  revert h; refine br fun r2 hx3 h => ?_
  have hc4 := c_spec_DrawAddEntry (Dq := Dq) (Dr := Dr) hx3
  refine st_call (cx_call hc4 (ent_f hc4.fn rfl) hn0 (H.sel' [0, 0] rfl rfl : Hp S0 σ0 _ ([_] ++ _))) wn ?_
  rintro _ σ11 ⟨_, ⟨a5, c6, a7, c8, a9, c10, rfl, rfl⟩, H, -⟩
  replace H : Hp _ _ _ [_, _, _, _] := H
  refine sm (.tuple #[(.agg #[(Sl a5 r2.1.1 c6), (Sl a7 r2.1.2 c8)]), (.agg #[(I r2.2.1.1), (I r2.2.1.2.1), (Sl a9 r2.2.1.2.2.1 c10), (I r2.2.1.2.2.2)]), (I r2.2.2)]) rfl (st (v := (.agg #[(Sl a5 r2.1.1 c6), (Sl a7 r2.1.2 c8)])) (rv_extract rfl rfl) (st (v := (.agg #[(I r2.2.1.1), (I r2.2.1.2.1), (Sl a9 r2.2.1.2.2.1 c10), (I r2.2.1.2.2.2)])) (rv_extract rfl rfl) (st (v := (I r2.2.2)) (rv_extract rfl rfl) (st_ex (ex_alloc (cs := [(.slice none 0 0), (.slice none 0 0)]) H hn0 ti26 rfl) wn ?_))))
  rintro _ σ13 ⟨b12, rfl, H, -⟩
  refine st_ex (ex_alloc (cs := [(I 0), (I 0), (.slice none 0 0), (I 0)]) H hn0 ti43 rfl) wn ?_
  rintro _ σ15 ⟨b14, rfl, H, -⟩
  refine st_exS (ex_store_box (k := 0) (cs := [(.slice none 0 0), (.slice none 0 0)]) (vs := [(Sl a5 r2.1.1 c6), (Sl a7 r2.1.2 c8)]) (cs' := [(Sl a5 r2.1.1 c6), (Sl a7 r2.1.2 c8)]) H (i := 1) rfl ti26 rfl rfl rfl rfl rfl (Nat.le_of_ble_eq_true rfl) (by simp [plain]) rfl) wn ?_
  rintro σ16 ⟨H, -⟩
  refine st_exS (ex_store_box (k := 0) (cs := [(I 0), (I 0), (.slice none 0 0), (I 0)]) (vs := [(I r2.2.1.1), (I r2.2.1.2.1), (Sl a9 r2.2.1.2.2.1 c10), (I r2.2.1.2.2.2)]) (cs' := [(I r2.2.1.1), (I r2.2.1.2.1), (Sl a9 r2.2.1.2.2.1 c10), (I r2.2.1.2.2.2)]) H (i := 1) rfl ti43 rfl rfl rfl rfl rfl (Nat.le_of_ble_eq_true rfl) (by simp [plain]) rfl) wn ?_
  rintro σ17 ⟨H, -⟩
  refine sa (I r2.2.2) rfl (w_end (q_then (c_seq (rg ?_))))
  have hc18 := H.cells 1 rfl
  refine st (v := (.agg #[(Sl a5 r2.1.1 c6), (Sl a7 r2.1.2 c8)])) (rv_load (cs := [(Sl a5 r2.1.1 c6), (Sl a7 r2.1.2 c8)]) Try.underlying26 rfl ti26 rfl rfl hc18) ?_
  have hc19 := H.cells 0 rfl
  refine st (v := (.agg #[(I r2.2.1.1), (I r2.2.1.2.1), (Sl a9 r2.2.1.2.2.1 c10), (I r2.2.1.2.2.2)])) (rv_load (cs := [(I r2.2.1.1), (I r2.2.1.2.1), (Sl a9 r2.2.1.2.2.1 c10), (I r2.2.1.2.2.2)]) Try.underlying43 rfl ti43 rfl rfl hc19) (sm (I r2.2.2) rfl ?_)
  revert h; refine br fun r20 hx21 h => ?_
  have hc22 := c_impl_AddEntry (Cd := a5) (Ce := c6) (Cf := a7) (Cg := c8) (Cn := a9) (Cp := c10) hx21
  have hle := Nat.le_trans hn0 H.size
  refine st_call (cx_lend (Loan.lend (Loan.lend (Loan.lend Loan.nil))) hc22 (ent_f hc22.fn rfl) (show Hp S0 σ0 _ ([Ch.own n0 n0 (Sl a5 r2.1.1 c6) r2.1.1, Ch.own n0 n0 (Sl a7 r2.1.2 c8) r2.1.2, Ch.own n0 n0 (Sl a9 r2.2.1.2.2.1 c10) r2.2.1.2.2.1] ++ ([] ++ [Ch.bx n0 b14 0 [(I r2.2.1.1), (I r2.2.1.2.1), (Sl a9 r2.2.1.2.2.1 c10), (I r2.2.1.2.2.2)] [] [], Ch.bx n0 b12 0 [(Sl a5 r2.1.1 c6), (Sl a7 r2.1.2 c8)] [] [], Ch.ro 0 (Sl Dq Do Dr) Do])) from (H.sel' [2, 3, 4, 0, 1, 5] rfl rfl)) (by rintro _ _ _ ⟨_, _, _, _, rfl, rfl, _⟩; exact ⟨Ab.own (Nat.le_refl _), Ab.ownSc, trivial⟩)) wn ?_
  rintro _ σ28 ⟨_, ⟨a23, c24, a26, c27, rfl, rfl, ht25⟩, H, -, -⟩
  replace H : Hp _ _ _ [_, _, _, _, _, _, _, _] := H
  replace H := H.ownLow 0 n0 n0 rfl hle hle
  replace H := H.ownLow 1 n0 n0 rfl hle hle
  clear hle
  replace H : Hp _ _ _ [_, _, _, _, _, _, _, _] := H
  replace H : Hp S0 σ0 σ28 [Ch.own n0 n0 (Sl a26 r20.1.2 c27) r20.1.2, Ch.own n0 n0 (Sl a23 r20.1.1 c24) r20.1.1, Ch.own n0 n0 (Sl a5 r2.1.1 c6) r2.1.1, Ch.own n0 n0 (Sl a7 r2.1.2 c8) r2.1.2, Ch.own n0 n0 (Sl a9 r2.2.1.2.2.1 c10) r2.2.1.2.2.1, Ch.bx n0 b14 0 [(I r2.2.1.1), (I r2.2.1.2.1), (Sl a9 r2.2.1.2.2.1 c10), (I r2.2.1.2.2.2)] [] [], Ch.bx n0 b12 0 [(Sl a5 r2.1.1 c6), (Sl a7 r2.1.2 c8)] [] []] := H.sel' [0, 1, 2, 3, 4, 5, 6] rfl rfl
  refine sm (.tuple #[(.agg #[(Sl a23 r20.1.1 c24), (Sl a26 r20.1.2 c27)]), (B r20.2)]) rfl (st (v := (.agg #[(Sl a23 r20.1.1 c24), (Sl a26 r20.1.2 c27)])) (rv_extract rfl rfl) (st (v := (B r20.2)) (rv_extract rfl rfl) (st_ex (ex_alloc (cs := [(.slice none 0 0), (.slice none 0 0)]) H hn0 ti26 rfl) wn ?_)))
  rintro _ σ30 ⟨b29, rfl, H, -⟩
  refine st_exS (ex_store_box (k := 0) (cs := [(.slice none 0 0), (.slice none 0 0)]) (vs := [(Sl a23 r20.1.1 c24), (Sl a26 r20.1.2 c27)]) (cs' := [(Sl a23 r20.1.1 c24), (Sl a26 r20.1.2 c27)]) H (i := 0) rfl ti26 rfl rfl rfl rfl rfl (Nat.le_of_ble_eq_true rfl) (by simp [plain]) rfl) wn ?_
  rintro σ31 ⟨H, -⟩
  refine sa (B r20.2) rfl (w_end (q_then (c_seq (rg ?_))))
  have hc32 := H.cells 7 rfl
  refine st (v := (.agg #[(Sl a5 r2.1.1 c6), (Sl a7 r2.1.2 c8)])) (rv_load (cs := [(Sl a5 r2.1.1 c6), (Sl a7 r2.1.2 c8)]) Try.underlying26 rfl ti26 rfl rfl hc32) ?_
  have hc33 := H.cells 6 rfl
  refine st (v := (.agg #[(I r2.2.1.1), (I r2.2.1.2.1), (Sl a9 r2.2.1.2.2.1 c10), (I r2.2.1.2.2.2)])) (rv_load (cs := [(I r2.2.1.1), (I r2.2.1.2.1), (Sl a9 r2.2.1.2.2.1 c10), (I r2.2.1.2.2.2)]) Try.underlying43 rfl ti43 rfl rfl hc33) (sm (I r2.2.2) rfl ?_)
  revert h; refine br fun r34 hx35 h => ?_
  have hc36 := c_spec_AddEntry (Cd := a5) (Ce := c6) (Cf := a7) (Cg := c8) (Cn := a9) (Cp := c10) hx35
  have hle := Nat.le_trans hn0 H.size
  refine st_call (cx_lend (Loan.lend (Loan.lend (Loan.lend Loan.nil))) hc36 (ent_f hc36.fn rfl) (show Hp S0 σ0 _ ([Ch.own n0 n0 (Sl a5 r2.1.1 c6) r2.1.1, Ch.own n0 n0 (Sl a7 r2.1.2 c8) r2.1.2, Ch.own n0 n0 (Sl a9 r2.2.1.2.2.1 c10) r2.2.1.2.2.1] ++ ([] ++ [Ch.bx n0 b29 0 [(Sl a23 r20.1.1 c24), (Sl a26 r20.1.2 c27)] [] [], Ch.own n0 n0 (Sl a26 r20.1.2 c27) r20.1.2, Ch.own n0 n0 (Sl a23 r20.1.1 c24) r20.1.1, Ch.bx n0 b14 0 [(I r2.2.1.1), (I r2.2.1.2.1), (Sl a9 r2.2.1.2.2.1 c10), (I r2.2.1.2.2.2)] [] [], Ch.bx n0 b12 0 [(Sl a5 r2.1.1 c6), (Sl a7 r2.1.2 c8)] [] []])) from (H.sel' [3, 4, 5, 0, 1, 2, 6, 7] rfl rfl)) (by rintro _ _ _ ⟨_, _, _, _, rfl, rfl⟩; exact ⟨Ab.own (Nat.le_refl _), Ab.ownSc, trivial⟩)) wn ?_
  rintro _ σ41 ⟨_, ⟨a37, c38, a39, c40, rfl, rfl⟩, H, -, -⟩
  replace H : Hp _ _ _ [_, _, _, _, _, _, _, _, _, _] := H
  replace H := H.ownLow 0 n0 n0 rfl hle hle
  replace H := H.ownLow 1 n0 n0 rfl hle hle
  clear hle
  replace H : Hp _ _ _ [_, _, _, _, _, _, _, _, _, _] := H
  refine sm (.tuple #[(.agg #[(Sl a37 r34.1.1 c38), (Sl a39 r34.1.2 c40)]), (B r34.2)]) rfl (st (v := (.agg #[(Sl a37 r34.1.1 c38), (Sl a39 r34.1.2 c40)])) (rv_extract rfl rfl) (st (v := (B r34.2)) (rv_extract rfl rfl) (st_ex (ex_alloc (cs := [(.slice none 0 0), (.slice none 0 0)]) H hn0 ti26 rfl) wn ?_)))
  rintro _ σ43 ⟨b42, rfl, H, -⟩
  refine st_exS (ex_store_box (k := 0) (cs := [(.slice none 0 0), (.slice none 0 0)]) (vs := [(Sl a37 r34.1.1 c38), (Sl a39 r34.1.2 c40)]) (cs' := [(Sl a37 r34.1.1 c38), (Sl a39 r34.1.2 c40)]) H (i := 0) rfl ti26 rfl rfl rfl rfl rfl (Nat.le_of_ble_eq_true rfl) (by simp [plain]) rfl) wn ?_
  rintro σ44 ⟨H, -⟩
  refine sa (B r34.2) rfl (w_end (q_then (c_seq (c_seq ?_))))
  obtain ⟨o45, hj, h'⟩ := bind_some h
  clear h
  refine c_cut (fun e a w => e = .normal ∧ ∃ (ρ : Nat → Value) (σ : St), a = fr 96 (updL ρ [(3, (pt b12 0)), (4, (pt b14 0)), (5, (I r2.2.2)), (6, (pt b29 0)), (7, (B r20.2)), (8, (pt b42 0)), (9, (B r34.2)), (47, (B o45))]) ∧ w = σ.w ∧ Hp S0 σ0 σ [Ch.own n0 n0 (Sl a5 r2.1.1 c6) r2.1.1, Ch.own n0 n0 (Sl a7 r2.1.2 c8) r2.1.2, Ch.bx n0 b12 0 [(Sl a5 r2.1.1 c6), (Sl a7 r2.1.2 c8)] [] [], Ch.own n0 n0 (Sl a9 r2.2.1.2.2.1 c10) r2.2.1.2.2.1, Ch.bx n0 b14 0 [(I r2.2.1.1), (I r2.2.1.2.1), (Sl a9 r2.2.1.2.2.1 c10), (I r2.2.1.2.2.2)] [] [], Ch.own n0 n0 (Sl a23 r20.1.1 c24) r20.1.1, Ch.own n0 n0 (Sl a26 r20.1.2 c27) r20.1.2, Ch.bx n0 b29 0 [(Sl a23 r20.1.1 c24), (Sl a26 r20.1.2 c27)] [] [], Ch.own n0 n0 (Sl a37 r34.1.1 c38) r34.1.1, Ch.own n0 n0 (Sl a39 r34.1.2 c40) r34.1.2, Ch.bx n0 b42 0 [(Sl a37 r34.1.1 c38), (Sl a39 r34.1.2 c40)] [] []]) ?_ ?_
  ·clear h'
   rename _ = some o45 => h
   refine rg ?_
   have hc46 := H.cells 6 rfl
   refine st (v := (.agg #[(Sl a23 r20.1.1 c24), (Sl a26 r20.1.2 c27)])) (rv_load (cs := [(Sl a23 r20.1.1 c24), (Sl a26 r20.1.2 c27)]) Try.underlying26 rfl ti26 rfl rfl hc46) ?_
   have hc47 := H.cells 0 rfl
   refine st (v := (.agg #[(Sl a37 r34.1.1 c38), (Sl a39 r34.1.2 c40)])) (rv_load (cs := [(Sl a37 r34.1.1 c38), (Sl a39 r34.1.2 c40)]) Try.underlying26 rfl ti26 rfl rfl hc47) ?_
   revert h; refine br fun r48 hx49 h => ?_
   have hc50 := c_laws_equalHistory (Dx := a23) (Dy := c24) (Dt := a26) (Du := c27) (Dz := a37) (Ea := c38) (Dv := a39) (Dw := c40) hx49
   have hle := Nat.le_trans hn0 H.size
   refine st_call (cx_lend (Loan.lend (Loan.lend (Loan.lend (Loan.lend Loan.nil)))) hc50 (ent_f hc50.fn rfl) (show Hp S0 σ0 _ ([Ch.own n0 n0 (Sl a23 r20.1.1 c24) r20.1.1, Ch.own n0 n0 (Sl a26 r20.1.2 c27) r20.1.2, Ch.own n0 n0 (Sl a37 r34.1.1 c38) r34.1.1, Ch.own n0 n0 (Sl a39 r34.1.2 c40) r34.1.2] ++ ([] ++ [Ch.bx n0 b42 0 [(Sl a37 r34.1.1 c38), (Sl a39 r34.1.2 c40)] [] [], Ch.own n0 n0 (Sl a5 r2.1.1 c6) r2.1.1, Ch.own n0 n0 (Sl a7 r2.1.2 c8) r2.1.2, Ch.own n0 n0 (Sl a9 r2.2.1.2.2.1 c10) r2.2.1.2.2.1, Ch.bx n0 b29 0 [(Sl a23 r20.1.1 c24), (Sl a26 r20.1.2 c27)] [] [], Ch.bx n0 b14 0 [(I r2.2.1.1), (I r2.2.1.2.1), (Sl a9 r2.2.1.2.2.1 c10), (I r2.2.1.2.2.2)] [] [], Ch.bx n0 b12 0 [(Sl a5 r2.1.1 c6), (Sl a7 r2.1.2 c8)] [] []])) from (H.sel' [8, 7, 2, 1, 0, 3, 4, 5, 6, 9, 10] rfl rfl)) (by rintro _ _ _ ⟨rfl, rfl⟩; exact trivial)) wn ?_
   rintro _ σ51 ⟨_, ⟨rfl, rfl⟩, H, -, -⟩
   replace H : Hp _ _ _ [_, _, _, _, _, _, _, _, _, _, _] := H
   clear hle
   replace H : Hp _ _ _ [_, _, _, _, _, _, _, _, _, _, _] := H
   refine st (v := (B (!r48))) (rv_not rfl) (sm (B (!r48)) rfl ?_)
   rcases Bool.eq_false_or_eq_true (!r48) with hb52 | hb52
   ·replace h := bif_t hb52 h
    refine st_skip (congrArg some hb52) (st_skip (congrArg some hb52) (st_skip (congrArg some hb52) (st (v := (B true)) (rv_pick_t (congrArg B hb52) rfl) (sm (B true) rfl (st_skip rfl (st_skip rfl (st (v := (B true)) (rv_pick_t rfl rfl) (w_end ?_))))))))
    obtain rfl := sj h
    exact ⟨rfl, _, σ51, fr_join ⟨rfl, rfl, rfl, rfl, rfl, rfl, rfl, rfl, trivial⟩, rfl, H.sel' [5, 6, 10, 7, 9, 0, 1, 8, 2, 3, 4] rfl rfl⟩
   ·replace h := bif_f hb52 h
    refine st_g (v := (B r20.2)) (congrArg some hb52) (rv_move rfl) (st_g (v := (B r34.2)) (congrArg some hb52) (rv_move rfl) (st_g (v := (B (r20.2 != r34.2))) (congrArg some hb52) (rv_bneq Try.underlying4 rfl rfl) (st (v := (B (r20.2 != r34.2))) (rv_pick_f (congrArg B hb52) rfl) (sm (B (r20.2 != r34.2)) rfl ?_))))
    rcases Bool.eq_false_or_eq_true (r20.2 != r34.2) with hb53 | hb53
    ·replace h := bif_t hb53 h
     refine st_skip (congrArg some hb53) (st_skip (congrArg some hb53) (st (v := (B true)) (rv_pick_t (congrArg B hb53) rfl) (w_end ?_)))
     obtain rfl := sj h
     exact ⟨rfl, _, σ51, fr_join ⟨rfl, rfl, rfl, rfl, rfl, rfl, rfl, rfl, trivial⟩, rfl, H.sel' [5, 6, 10, 7, 9, 0, 1, 8, 2, 3, 4] rfl rfl⟩
    ·replace h := bif_f hb53 h
     refine st_g (v := (B r20.2)) (congrArg some hb53) (rv_move rfl) (st_g (v := (B (!r20.2))) (congrArg some hb53) (rv_not rfl) (st (v := (B (!r20.2))) (rv_pick_f (congrArg B hb53) rfl) (w_end ?_)))
     obtain rfl := sj h
     exact ⟨rfl, _, σ51, fr_join ⟨rfl, rfl, rfl, rfl, rfl, rfl, rfl, rfl, trivial⟩, rfl, H.sel' [5, 6, 10, 7, 9, 0, 1, 8, 2, 3, 4] rfl rfl⟩
  ·clear hj
   have h := h'
   clear h' H
   rintro e a w ⟨rfl, ρ, σ54, rfl, rfl, H⟩
   refine q_then ?_
   refine cd_cond o45 rfl (fun hb55 => ?_) (fun hb55 => ?_)
   ·replace h := bif_t hb55 h
    refine c_seq (rg ?_)
    have hc56 := H.cells 7 rfl
    refine st (v := (.agg #[(Sl a23 r20.1.1 c24), (Sl a26 r20.1.2 c27)])) (rv_load (cs := [(Sl a23 r20.1.1 c24), (Sl a26 r20.1.2 c27)]) Try.underlying26 rfl ti26 rfl rfl hc56) ?_
    have hc57 := H.cells 10 rfl
    refine st (v := (.agg #[(Sl a37 r34.1.1 c38), (Sl a39 r34.1.2 c40)])) (rv_load (cs := [(Sl a37 r34.1.1 c38), (Sl a39 r34.1.2 c40)]) Try.underlying26 rfl ti26 rfl rfl hc57) ?_
    obtain ⟨σ58, hw59, H, -⟩ := H.pub 5 rfl (Nat.le_refl _)
    rw [← hw59]; clear hw59
    obtain ⟨σ60, hw61, H, -⟩ := H.pub 6 rfl (Nat.le_refl _)
    rw [← hw61]; clear hw61
    obtain ⟨σ62, hw63, H, -⟩ := H.pub 8 rfl (Nat.le_refl _)
    rw [← hw63]; clear hw63
    obtain ⟨σ64, hw65, H, -⟩ := H.pub 9 rfl (Nat.le_refl _)
    rw [← hw65]; clear hw65
    replace H := H.roLow 3 0 rfl (Nat.zero_le _)
    replace H := H.roLow 3 0 rfl (Nat.zero_le _)
    replace H := H.roLow 3 0 rfl (Nat.zero_le _)
    replace H := H.roLow 3 0 rfl (Nat.zero_le _)
    revert h; refine br fun r66 hx67 h => ?_
    have hc68 := c_laws_equalHistory (Dx := a23) (Dy := c24) (Dt := a26) (Du := c27) (Dz := a37) (Ea := c38) (Dv := a39) (Dw := c40) hx67
    refine st_call (cx_call hc68 (ent_f hc68.fn rfl) hn0 (H.sel' [3, 2, 1, 0, 0, 1, 2, 3, 4, 5, 6, 7, 8, 9, 10, 11, 12, 13, 14] rfl rfl : Hp S0 σ0 _ ([_, _, _, _] ++ _))) wn ?_
    rintro _ σ69 ⟨_, ⟨rfl, rfl⟩, H, -⟩
    replace H : Hp _ _ _ [_, _, _, _, _, _, _, _, _, _, _, _, _, _, _] := H
    replace H : Hp S0 σ0 σ69 [] := H.sel' [] rfl rfl
    refine sm (B r66) rfl ?_
    rcases Bool.eq_false_or_eq_true r66 with hb70 | hb70
    ·replace h := bif_t hb70 h
     refine st_g (v := (B r20.2)) (congrArg some hb70) (rv_move rfl) (st_g (v := (B r34.2)) (congrArg some hb70) (rv_move rfl) (st_g (v := (B (r20.2 == r34.2))) (congrArg some hb70) (rv_beql Try.underlying4 rfl rfl) (st (v := (B (r20.2 == r34.2))) (rv_pick_t (congrArg B hb70) rfl) (sa (B (r20.2 == r34.2)) rfl (w_end (q_then (c_ret (q_then_r ?_))))))))
     obtain rfl := sj h
     exact fin_ret (v := (B (r20.2 == r34.2))) (results_ok Try.results6 (res_tmp (v := (B (r20.2 == r34.2))) rfl res_nil) rfl) ⟨rfl, rfl⟩ (H.sel' [] rfl rfl)
    ·replace h := bif_f hb70 h
     refine st_skip (congrArg some hb70) (st_skip (congrArg some hb70) (st_skip (congrArg some hb70) (st (v := (B false)) (rv_pick_f (congrArg B hb70) rfl) (sa (B false) rfl (w_end (q_then (c_ret (q_then_r ?_))))))))
     obtain rfl := sj h
     exact fin_ret (v := (B false)) (results_ok Try.results6 (res_tmp (v := (B false)) rfl res_nil) rfl) ⟨rfl, rfl⟩ (H.sel' [] rfl rfl)
   ·replace h := bif_f hb55 h
    refine c_skip (q_then (c_seq ?_))
    obtain ⟨σ71, hw72, H, -⟩ := H.pub 5 rfl (Nat.le_refl _)
    rw [← hw72]; clear hw72
    obtain ⟨σ73, hw74, H, -⟩ := H.pub 6 rfl (Nat.le_refl _)
    rw [← hw74]; clear hw74
    obtain ⟨σ75, hw76, H, -⟩ := H.pub 5 rfl (Nat.le_refl _)
    rw [← hw76]; clear hw76
    have hc77 := H.cells 7 rfl
    replace H := H.roLow 2 0 rfl (Nat.zero_le _)
    replace H := H.roLow 2 0 rfl (Nat.zero_le _)
    revert h; refine br fun r78 hx79 h => ?_
    have hc80 := c_impl_StoreAt (Cd := a23) (Ce := c24) (Cf := a26) (Cg := c27) hx79
    have hc83 := H.cell (u := (I r2.2.1.2.1)) (o' := 1) 8 1 rfl rfl rfl
    revert h; refine br fun r84 hx85 h => ?_
    have hc86 := fun (a81 : Option Addr) (c82 : Nat) => c_impl_GetItem (Ap := a81) (Aq := c82) hx85
    have Hs := H
    refine rg2 (σ := σ75) (Nm := (Option Addr) × (Nat) × (Option Addr) × (Nat) × (Nat)) 12 [2, 6, 10, 11] [[false, false, false, false], [true, false, false, false], [false, false, true, false], [true, true, false, false], [true, false, true, false], [true, true, true, false], [true, true, true, true]] [[(0, 0), (2, 2)], [(0, 0), (2, 2)], [(0, 1), (2, 4)], [(0, 0), (1, 1), (2, 2), (4, 4)], [(0, 0), (1, 1), (2, 2), (4, 4)], [(0, 0), (1, 1), (2, 2), (4, 4)], [(1, 3), (4, 5)], [(3, 3), (5, 5)], [(3, 3), (5, 5)], [(3, 3), (5, 5), (6, 6)], [(0, 2), (1, 4), (3, 5)], [(5, 6)]] 6 [fun ((a81, c82, a87, c88, b89) : (Option Addr) × (Nat) × (Option Addr) × (Nat) × (Nat)) => fun σm => Hp S0 σ0 σm [Ch.ro 0 (Sl a26 r20.1.2 c27) r20.1.2, Ch.ro 0 (Sl a23 r20.1.1 c24) r20.1.1, Ch.ro n0 (Sl a9 r2.2.1.2.2.1 c10) r2.2.1.2.2.1, Ch.ro n0 (Sl a26 r20.1.2 c27) r20.1.2, Ch.ro n0 (Sl a23 r20.1.1 c24) r20.1.1, Ch.own n0 n0 (Sl a5 r2.1.1 c6) r2.1.1, Ch.own n0 n0 (Sl a7 r2.1.2 c8) r2.1.2, Ch.bx n0 b12 0 [(Sl a5 r2.1.1 c6), (Sl a7 r2.1.2 c8)] [] [], Ch.bx n0 b14 0 [(I r2.2.1.1), (I r2.2.1.2.1), (Sl a9 r2.2.1.2.2.1 c10), (I r2.2.1.2.2.2)] [] [], Ch.bx n0 b29 0 [(Sl a23 r20.1.1 c24), (Sl a26 r20.1.2 c27)] [] [], Ch.own n0 n0 (Sl a37 r34.1.1 c38) r34.1.1, Ch.own n0 n0 (Sl a39 r34.1.2 c40) r34.1.2, Ch.bx n0 b42 0 [(Sl a37 r34.1.1 c38), (Sl a39 r34.1.2 c40)] [] []] ∧ Md (cov []) σ75 σm, fun ((a81, c82, a87, c88, b89) : (Option Addr) × (Nat) × (Option Addr) × (Nat) × (Nat)) => fun σm => Hp S0 σ0 σm [Ch.ro 0 (Sl a81 r78 c82) r78, Ch.ro 0 (Sl a26 r20.1.2 c27) r20.1.2, Ch.ro 0 (Sl a23 r20.1.1 c24) r20.1.1, Ch.ro n0 (Sl a9 r2.2.1.2.2.1 c10) r2.2.1.2.2.1, Ch.ro n0 (Sl a26 r20.1.2 c27) r20.1.2, Ch.ro n0 (Sl a23 r20.1.1 c24) r20.1.1, Ch.own n0 n0 (Sl a5 r2.1.1 c6) r2.1.1, Ch.own n0 n0 (Sl a7 r2.1.2 c8) r2.1.2, Ch.bx n0 b12 0 [(Sl a5 r2.1.1 c6), (Sl a7 r2.1.2 c8)] [] [], Ch.bx n0 b14 0 [(I r2.2.1.1), (I r2.2.1.2.1), (Sl a9 r2.2.1.2.2.1 c10), (I r2.2.1.2.2.2)] [] [], Ch.bx n0 b29 0 [(Sl a23 r20.1.1 c24), (Sl a26 r20.1.2 c27)] [] [], Ch.own n0 n0 (Sl a37 r34.1.1 c38) r34.1.1, Ch.own n0 n0 (Sl a39 r34.1.2 c40) r34.1.2, Ch.bx n0 b42 0 [(Sl a37 r34.1.1 c38), (Sl a39 r34.1.2 c40)] [] []] ∧ Md (fun i => (cov []) i ∨ (fun i => (cov [Ch.ro 0 (Sl a23 r20.1.1 c24) r20.1.1, Ch.ro 0 (Sl a26 r20.1.2 c27) r20.1.2]) i ∨ (fun b => blk (Sl a81 r78 c82) = some b) i) i) σ75 σm, fun ((a81, c82, a87, c88, b89) : (Option Addr) × (Nat) × (Option Addr) × (Nat) × (Nat)) => fun σm => Hp S0 σ0 σm [Ch.bx n0 b89 0 [(I 0), (.slice none 0 0), (I 0)] [] [], Ch.ro 0 (Sl a26 r20.1.2 c27) r20.1.2, Ch.ro 0 (Sl a23 r20.1.1 c24) r20.1.1, Ch.ro n0 (Sl a9 r2.2.1.2.2.1 c10) r2.2.1.2.2.1, Ch.ro n0 (Sl a26 r20.1.2 c27) r20.1.2, Ch.ro n0 (Sl a23 r20.1.1 c24) r20.1.1, Ch.own n0 n0 (Sl a5 r2.1.1 c6) r2.1.1, Ch.own n0 n0 (Sl a7 r2.1.2 c8) r2.1.2, Ch.bx n0 b12 0 [(Sl a5 r2.1.1 c6), (Sl a7 r2.1.2 c8)] [] [], Ch.bx n0 b14 0 [(I r2.2.1.1), (I r2.2.1.2.1), (Sl a9 r2.2.1.2.2.1 c10), (I r2.2.1.2.2.2)] [] [], Ch.bx n0 b29 0 [(Sl a23 r20.1.1 c24), (Sl a26 r20.1.2 c27)] [] [], Ch.own n0 n0 (Sl a37 r34.1.1 c38) r34.1.1, Ch.own n0 n0 (Sl a39 r34.1.2 c40) r34.1.2, Ch.bx n0 b42 0 [(Sl a37 r34.1.1 c38), (Sl a39 r34.1.2 c40)] [] []] ∧ Md (cov []) σ75 σm, fun ((a81, c82, a87, c88, b89) : (Option Addr) × (Nat) × (Option Addr) × (Nat) × (Nat)) => fun σm => Hp S0 σ0 σm [Ch.own n0 n0 (Sl a87 r84.1.2.1 c88) r84.1.2.1, Ch.ro 0 (Sl a81 r78 c82) r78, Ch.ro 0 (Sl a26 r20.1.2 c27) r20.1.2, Ch.ro 0 (Sl a23 r20.1.1 c24) r20.1.1, Ch.ro n0 (Sl a9 r2.2.1.2.2.1 c10) r2.2.1.2.2.1, Ch.ro n0 (Sl a26 r20.1.2 c27) r20.1.2, Ch.ro n0 (Sl a23 r20.1.1 c24) r20.1.1, Ch.own n0 n0 (Sl a5 r2.1.1 c6) r2.1.1, Ch.own n0 n0 (Sl a7 r2.1.2 c8) r2.1.2, Ch.bx n0 b12 0 [(Sl a5 r2.1.1 c6), (Sl a7 r2.1.2 c8)] [] [], Ch.bx n0 b14 0 [(I r2.2.1.1), (I r2.2.1.2.1), (Sl a9 r2.2.1.2.2.1 c10), (I r2.2.1.2.2.2)] [] [], Ch.bx n0 b29 0 [(Sl a23 r20.1.1 c24), (Sl a26 r20.1.2 c27)] [] [], Ch.own n0 n0 (Sl a37 r34.1.1 c38) r34.1.1, Ch.own n0 n0 (Sl a39 r34.1.2 c40) r34.1.2, Ch.bx n0 b42 0 [(Sl a37 r34.1.1 c38), (Sl a39 r34.1.2 c40)] [] []] ∧ Md (fun i => (cov []) i ∨ (fun i => (cov [Ch.ro 0 (Sl a23 r20.1.1 c24) r20.1.1, Ch.ro 0 (Sl a26 r20.1.2 c27) r20.1.2]) i ∨ (fun b => blk (Sl a81 r78 c82) = some b) i) i) σ75 σm, fun ((a81, c82, a87, c88, b89) : (Option Addr) × (Nat) × (Option Addr) × (Nat) × (Nat)) => fun σm => Hp S0 σ0 σm [Ch.bx n0 b89 0 [(I 0), (.slice none 0 0), (I 0)] [] [], Ch.ro 0 (Sl a81 r78 c82) r78, Ch.ro 0 (Sl a26 r20.1.2 c27) r20.1.2, Ch.ro 0 (Sl a23 r20.1.1 c24) r20.1.1, Ch.ro n0 (Sl a9 r2.2.1.2.2.1 c10) r2.2.1.2.2.1, Ch.ro n0 (Sl a26 r20.1.2 c27) r20.1.2, Ch.ro n0 (Sl a23 r20.1.1 c24) r20.1.1, Ch.own n0 n0 (Sl a5 r2.1.1 c6) r2.1.1, Ch.own n0 n0 (Sl a7 r2.1.2 c8) r2.1.2, Ch.bx n0 b12 0 [(Sl a5 r2.1.1 c6), (Sl a7 r2.1.2 c8)] [] [], Ch.bx n0 b14 0 [(I r2.2.1.1), (I r2.2.1.2.1), (Sl a9 r2.2.1.2.2.1 c10), (I r2.2.1.2.2.2)] [] [], Ch.bx n0 b29 0 [(Sl a23 r20.1.1 c24), (Sl a26 r20.1.2 c27)] [] [], Ch.own n0 n0 (Sl a37 r34.1.1 c38) r34.1.1, Ch.own n0 n0 (Sl a39 r34.1.2 c40) r34.1.2, Ch.bx n0 b42 0 [(Sl a37 r34.1.1 c38), (Sl a39 r34.1.2 c40)] [] []] ∧ Md (fun i => (cov []) i ∨ (fun i => (cov [Ch.ro 0 (Sl a23 r20.1.1 c24) r20.1.1, Ch.ro 0 (Sl a26 r20.1.2 c27) r20.1.2]) i ∨ (fun b => blk (Sl a81 r78 c82) = some b) i) i) σ75 σm, fun ((a81, c82, a87, c88, b89) : (Option Addr) × (Nat) × (Option Addr) × (Nat) × (Nat)) => fun σm => Hp S0 σ0 σm [Ch.bx n0 b89 0 [(I 0), (.slice none 0 0), (I 0)] [] [], Ch.own n0 n0 (Sl a87 r84.1.2.1 c88) r84.1.2.1, Ch.ro 0 (Sl a81 r78 c82) r78, Ch.ro 0 (Sl a26 r20.1.2 c27) r20.1.2, Ch.ro 0 (Sl a23 r20.1.1 c24) r20.1.1, Ch.ro n0 (Sl a9 r2.2.1.2.2.1 c10) r2.2.1.2.2.1, Ch.ro n0 (Sl a26 r20.1.2 c27) r20.1.2, Ch.ro n0 (Sl a23 r20.1.1 c24) r20.1.1, Ch.own n0 n0 (Sl a5 r2.1.1 c6) r2.1.1, Ch.own n0 n0 (Sl a7 r2.1.2 c8) r2.1.2, Ch.bx n0 b12 0 [(Sl a5 r2.1.1 c6), (Sl a7 r2.1.2 c8)] [] [], Ch.bx n0 b14 0 [(I r2.2.1.1), (I r2.2.1.2.1), (Sl a9 r2.2.1.2.2.1 c10), (I r2.2.1.2.2.2)] [] [], Ch.bx n0 b29 0 [(Sl a23 r20.1.1 c24), (Sl a26 r20.1.2 c27)] [] [], Ch.own n0 n0 (Sl a37 r34.1.1 c38) r34.1.1, Ch.own n0 n0 (Sl a39 r34.1.2 c40) r34.1.2, Ch.bx n0 b42 0 [(Sl a37 r34.1.1 c38), (Sl a39 r34.1.2 c40)] [] []] ∧ Md (fun i => (cov []) i ∨ (fun i => (cov [Ch.ro 0 (Sl a23 r20.1.1 c24) r20.1.1, Ch.ro 0 (Sl a26 r20.1.2 c27) r20.1.2]) i ∨ (fun b => blk (Sl a81 r78 c82) = some b) i) i) σ75 σm, fun ((a81, c82, a87, c88, b89) : (Option Addr) × (Nat) × (Option Addr) × (Nat) × (Nat)) => fun σm => Hp S0 σ0 σm [Ch.bx n0 b89 0 [(I r84.1.1), (Sl a87 r84.1.2.1 c88), (I r84.1.2.2)] [] [], Ch.own n0 n0 (Sl a87 r84.1.2.1 c88) r84.1.2.1, Ch.ro 0 (Sl a81 r78 c82) r78, Ch.ro 0 (Sl a26 r20.1.2 c27) r20.1.2, Ch.ro 0 (Sl a23 r20.1.1 c24) r20.1.1, Ch.ro n0 (Sl a9 r2.2.1.2.2.1 c10) r2.2.1.2.2.1, Ch.ro n0 (Sl a26 r20.1.2 c27) r20.1.2, Ch.ro n0 (Sl a23 r20.1.1 c24) r20.1.1, Ch.own n0 n0 (Sl a5 r2.1.1 c6) r2.1.1, Ch.own n0 n0 (Sl a7 r2.1.2 c8) r2.1.2, Ch.bx n0 b12 0 [(Sl a5 r2.1.1 c6), (Sl a7 r2.1.2 c8)] [] [], Ch.bx n0 b14 0 [(I r2.2.1.1), (I r2.2.1.2.1), (Sl a9 r2.2.1.2.2.1 c10), (I r2.2.1.2.2.2)] [] [], Ch.bx n0 b29 0 [(Sl a23 r20.1.1 c24), (Sl a26 r20.1.2 c27)] [] [], Ch.own n0 n0 (Sl a37 r34.1.1 c38) r34.1.1, Ch.own n0 n0 (Sl a39 r34.1.2 c40) r34.1.2, Ch.bx n0 b42 0 [(Sl a37 r34.1.1 c38), (Sl a39 r34.1.2 c40)] [] []] ∧ Md (fun i => (fun i => (cov []) i ∨ (fun i => (cov [Ch.ro 0 (Sl a23 r20.1.1 c24) r20.1.1, Ch.ro 0 (Sl a26 r20.1.2 c27) r20.1.2]) i ∨ (fun b => blk (Sl a81 r78 c82) = some b) i) i) i ∨ (fun i => i = b89) i) σ75 σm] [fun ((a81, c82, a87, c88, b89) : (Option Addr) × (Nat) × (Option Addr) × (Nat) × (Nat)) => (.agg #[(Sl a23 r20.1.1 c24), (Sl a26 r20.1.2 c27)]), fun ((a81, c82, a87, c88, b89) : (Option Addr) × (Nat) × (Option Addr) × (Nat) × (Nat)) => (I r2.2.2), fun ((a81, c82, a87, c88, b89) : (Option Addr) × (Nat) × (Option Addr) × (Nat) × (Nat)) => (Sl a81 r78 c82), fun ((a81, c82, a87, c88, b89) : (Option Addr) × (Nat) × (Option Addr) × (Nat) × (Nat)) => (pt b14 1), fun ((a81, c82, a87, c88, b89) : (Option Addr) × (Nat) × (Option Addr) × (Nat) × (Nat)) => (pt b14 1), fun ((a81, c82, a87, c88, b89) : (Option Addr) × (Nat) × (Option Addr) × (Nat) × (Nat)) => (I r2.2.1.2.1), fun ((a81, c82, a87, c88, b89) : (Option Addr) × (Nat) × (Option Addr) × (Nat) × (Nat)) => (.tuple #[(.agg #[(I r84.1.1), (Sl a87 r84.1.2.1 c88), (I r84.1.2.2)]), (B r84.2)]), fun ((a81, c82, a87, c88, b89) : (Option Addr) × (Nat) × (Option Addr) × (Nat) × (Nat)) => (.tuple #[(.agg #[(I r84.1.1), (Sl a87 r84.1.2.1 c88), (I r84.1.2.2)]), (B r84.2)]), fun ((a81, c82, a87, c88, b89) : (Option Addr) × (Nat) × (Option Addr) × (Nat) × (Nat)) => (.agg #[(I r84.1.1), (Sl a87 r84.1.2.1 c88), (I r84.1.2.2)]), fun ((a81, c82, a87, c88, b89) : (Option Addr) × (Nat) × (Option Addr) × (Nat) × (Nat)) => (B r84.2), fun ((a81, c82, a87, c88, b89) : (Option Addr) × (Nat) × (Option Addr) × (Nat) × (Nat)) => (pt b89 0), fun ((a81, c82, a87, c88, b89) : (Option Addr) × (Nat) × (Option Addr) × (Nat) × (Nat)) => undef] (none, 0, none, 0, 0) (by kernel_rfl) (by kernel_rfl) ?_ ?_ ?_
    ·intro σm m0
     exact ⟨H.grow (m0.mono fun _ h => h.elim), m0⟩
    ·refine all_cons (by
       refine ⟨?_, ?_⟩
       ·rintro ⟨a81, c82, a87, c88, b89⟩ ρ σm hJ hoff hdep
        have e6 := look_off (N := 96) (hoff 6 rfl) rfl
        obtain ⟨H, m⟩ := id hJ
        have hc77 := H.cells 9 rfl
        exact dp_v (v := (.agg #[(Sl a23 r20.1.1 c24), (Sl a26 r20.1.2 c27)])) wn (rv_load (cs := [(Sl a23 r20.1.1 c24), (Sl a26 r20.1.2 c27)]) Try.underlying26 rfl ti26 e6 rfl hc77) rfl hJ
       refine ⟨?_, ?_⟩
       ·rintro ⟨a81, c82, a87, c88, b89⟩ ρ σm hJ hoff hdep
        have e6 := look_off (N := 96) (hoff 6 rfl) rfl
        obtain ⟨H, m⟩ := id hJ
        have hc77 := H.cells 10 rfl
        exact dp_v (v := (.agg #[(Sl a23 r20.1.1 c24), (Sl a26 r20.1.2 c27)])) wn (rv_load (cs := [(Sl a23 r20.1.1 c24), (Sl a26 r20.1.2 c27)]) Try.underlying26 rfl ti26 e6 rfl hc77) rfl hJ
       trivial) ?_
     refine ac rfl (by
       intro k; rintro ⟨a81, c82, a87, c88, b89⟩ ρ σm hJ hoff hdep
       have e5 := look_off (N := 96) (hoff 5 rfl) rfl
       exact dp_v (v := (I r2.2.2)) wn (rv_move e5) rfl hJ) ?_
     refine all_cons (by
       refine ⟨?_, ?_⟩
       ·rintro ⟨a81, c82, a87, c88, b89⟩ ρ σm hJ hoff hdep
        have e57 : look 96 ρ 57 = (.agg #[(Sl a23 r20.1.1 c24), (Sl a26 r20.1.2 c27)]) := hdep 0 rfl rfl 57 rfl
        have e58 : look 96 ρ 58 = (I r2.2.2) := hdep 1 rfl rfl 58 rfl
        obtain ⟨H, m⟩ := id hJ
        refine dp_cx wn (cx_call hc80 (ent_f hc80.fn (by show [look 96 ρ 57, look 96 ρ 58] = _; rw [e57, e58])) hn0 (H.sel' [1, 0, 0, 1, 2, 3, 4, 5, 6, 7, 8, 9, 10, 11, 12] rfl rfl : Hp S0 σ0 _ ([_, _] ++ _))) ?_
        rintro _ σq ⟨_, ⟨a81x, c82x, rfl, rfl⟩, H2, m2⟩
        obtain ⟨σr0, hwr0, H2, mr0⟩ := H2.pub 0 rfl (Nat.le_refl _)
        exact ⟨_, (a81x, c82x, a87, c88, b89), hwr0, rfl, ⟨H2.sel' [0, 1, 2, 3, 4, 5, 6, 7, 8, 9, 10, 11, 12, 13] rfl rfl, m.comp (m2.comp mr0)⟩, stab [0, 1, 3, 4, 5, 10] (by kernel_rfl) ⟨rfl, rfl, rfl, rfl, rfl, rfl, trivial⟩⟩
       refine ⟨?_, ?_⟩
       ·rintro ⟨a81, c82, a87, c88, b89⟩ ρ σm hJ hoff hdep
        have e57 : look 96 ρ 57 = (.agg #[(Sl a23 r20.1.1 c24), (Sl a26 r20.1.2 c27)]) := hdep 0 rfl rfl 57 rfl
        have e58 : look 96 ρ 58 = (I r2.2.2) := hdep 1 rfl rfl 58 rfl
        obtain ⟨H, m⟩ := id hJ
        refine dp_cx wn (cx_call hc80 (ent_f hc80.fn (by show [look 96 ρ 57, look 96 ρ 58] = _; rw [e57, e58])) hn0 (H.sel' [2, 1, 0, 1, 2, 3, 4, 5, 6, 7, 8, 9, 10, 11, 12, 13] rfl rfl : Hp S0 σ0 _ ([_, _] ++ _))) ?_
        rintro _ σq ⟨_, ⟨a81x, c82x, rfl, rfl⟩, H2, m2⟩
        obtain ⟨σr0, hwr0, H2, mr0⟩ := H2.pub 0 rfl (Nat.le_refl _)
        exact ⟨_, (a81x, c82x, a87, c88, b89), hwr0, rfl, ⟨H2.sel' [1, 0, 2, 3, 4, 5, 6, 7, 8, 9, 10, 11, 12, 13, 14] rfl rfl, m.comp (m2.comp mr0)⟩, stab [0, 1, 3, 4, 5, 10] (by kernel_rfl) ⟨rfl, rfl, rfl, rfl, rfl, rfl, trivial⟩⟩
       trivial) ?_
     refine ac rfl (by
       intro k; rintro ⟨a81, c82, a87, c88, b89⟩ ρ σm hJ hoff hdep
       have e4 := look_off (N := 96) (hoff 4 rfl) rfl
       exact dp_v (v := (pt b14 1)) wn (rv_fieldAddr (off := 1) (ft := 41) Try.underlying43 rfl ti41 rfl e4) rfl hJ) ?_
     refine ac rfl (by
       intro k; rintro ⟨a81, c82, a87, c88, b89⟩ ρ σm hJ hoff hdep
       have e60 := hdep 3 rfl rfl 60 rfl
       exact dp_v (v := (pt b14 1)) wn (rv_fieldAddr (off := 0) (ft := 3) Try.underlying41 rfl ti3 rfl e60) rfl hJ) ?_
     refine all_cons (by
       refine ⟨?_, ?_⟩
       ·rintro ⟨a81, c82, a87, c88, b89⟩ ρ σm hJ hoff hdep
        have e61 := hdep 4 rfl rfl 61 rfl
        obtain ⟨H, m⟩ := id hJ
        have hc83 := H.cell (u := (I r2.2.1.2.1)) (o' := 1) 8 1 rfl rfl rfl
        exact dp_v (v := (I r2.2.1.2.1)) wn (rv_load1 Try.underlying3 rfl e61 hc83) rfl hJ
       refine ⟨?_, ?_⟩
       ·rintro ⟨a81, c82, a87, c88, b89⟩ ρ σm hJ hoff hdep
        have e61 := hdep 4 rfl rfl 61 rfl
        obtain ⟨H, m⟩ := id hJ
        have hc83 := H.cell (u := (I r2.2.1.2.1)) (o' := 1) 9 1 rfl rfl rfl
        exact dp_v (v := (I r2.2.1.2.1)) wn (rv_load1 Try.underlying3 rfl e61 hc83) rfl hJ
       refine ⟨?_, ?_⟩
       ·rintro ⟨a81, c82, a87, c88, b89⟩ ρ σm hJ hoff hdep
        have e61 := hdep 4 rfl rfl 61 rfl
        obtain ⟨H, m⟩ := id hJ
        have hc83 := H.cell (u := (I r2.2.1.2.1)) (o' := 1) 9 1 rfl rfl rfl
        exact dp_v (v := (I r2.2.1.2.1)) wn (rv_load1 Try.underlying3 rfl e61 hc83) rfl hJ
       refine ⟨?_, ?_⟩
       ·rintro ⟨a81, c82, a87, c88, b89⟩ ρ σm hJ hoff hdep
        have e61 := hdep 4 rfl rfl 61 rfl
        obtain ⟨H, m⟩ := id hJ
        have hc83 := H.cell (u := (I r2.2.1.2.1)) (o' := 1) 10 1 rfl rfl rfl
        exact dp_v (v := (I r2.2.1.2.1)) wn (rv_load1 Try.underlying3 rfl e61 hc83) rfl hJ
       trivial) ?_
     refine all_cons (by
       refine ⟨?_, ?_⟩
       ·rintro ⟨a81, c82, a87, c88, b89⟩ ρ σm hJ hoff hdep
        have e59 : look 96 ρ 59 = (Sl a81 r78 c82) := hdep 2 rfl rfl 59 rfl
        have e62 : look 96 ρ 62 = (I r2.2.1.2.1) := hdep 5 rfl rfl 62 rfl
        obtain ⟨H, m⟩ := id hJ
        refine dp_cx wn (cx_call (hc86 a81 c82) (ent_f (hc86 a81 c82).fn (by show [look 96 ρ 59, look 96 ρ 62] = _; rw [e59, e62])) hn0 (H.sel' [0, 0, 1, 2, 3, 4, 5, 6, 7, 8, 9, 10, 11, 12, 13] rfl rfl : Hp S0 σ0 _ ([_] ++ _))) ?_
        rintro _ σq ⟨_, ⟨a87x, c88x, rfl, rfl⟩, H2, m2⟩
        exact ⟨_, (a81, c82, a87x, c88x, b89), rfl, rfl, ⟨H2.sel' [0, 1, 2, 3, 4, 5, 6, 7, 8, 9, 10, 11, 12, 13, 14] rfl rfl, m.comp0 (m2.mono (fun i h => by simp [cov, Ch.ro] at h))⟩, stab [0, 1, 2, 3, 4, 5, 10] (by kernel_rfl) ⟨rfl, rfl, rfl, rfl, rfl, rfl, rfl, trivial⟩⟩
       refine ⟨?_, ?_⟩
       ·rintro ⟨a81, c82, a87, c88, b89⟩ ρ σm hJ hoff hdep
        have e59 : look 96 ρ 59 = (Sl a81 r78 c82) := hdep 2 rfl rfl 59 rfl
        have e62 : look 96 ρ 62 = (I r2.2.1.2.1) := hdep 5 rfl rfl 62 rfl
        obtain ⟨H, m⟩ := id hJ
        refine dp_cx wn (cx_call (hc86 a81 c82) (ent_f (hc86 a81 c82).fn (by show [look 96 ρ 59, look 96 ρ 62] = _; rw [e59, e62])) hn0 (H.sel' [1, 0, 1, 2, 3, 4, 5, 6, 7, 8, 9, 10, 11, 12, 13, 14] rfl rfl : Hp S0 σ0 _ ([_] ++ _))) ?_
        rintro _ σq ⟨_, ⟨a87x, c88x, rfl, rfl⟩, H2, m2⟩
        exact ⟨_, (a81, c82, a87x, c88x, b89), rfl, rfl, ⟨H2.sel' [1, 0, 2, 3, 4, 5, 6, 7, 8, 9, 10, 11, 12, 13, 14, 15] rfl rfl, m.comp0 (m2.mono (fun i h => by simp [cov, Ch.ro] at h))⟩, stab [0, 1, 2, 3, 4, 5, 10] (by kernel_rfl) ⟨rfl, rfl, rfl, rfl, rfl, rfl, rfl, trivial⟩⟩
       trivial) ?_
     refine ac rfl (by
       intro k; rintro ⟨a81, c82, a87, c88, b89⟩ ρ σm hJ hoff hdep
       have e63 := hdep 6 rfl rfl 63 rfl
       exact dp_v (v := (.tuple #[(.agg #[(I r84.1.1), (Sl a87 r84.1.2.1 c88), (I r84.1.2.2)]), (B r84.2)])) wn (rv_move e63) rfl hJ) ?_
     refine ac rfl (by
       intro k; rintro ⟨a81, c82, a87, c88, b89⟩ ρ σm hJ hoff hdep
       have e56 := hdep 7 rfl rfl 56 rfl
       exact dp_v (v := (.agg #[(I r84.1.1), (Sl a87 r84.1.2.1 c88), (I r84.1.2.2)])) wn (rv_extract e56 rfl) rfl hJ) ?_
     refine ac rfl (by
       intro k; rintro ⟨a81, c82, a87, c88, b89⟩ ρ σm hJ hoff hdep
       have e56 := hdep 7 rfl rfl 56 rfl
       exact dp_v (v := (B r84.2)) wn (rv_extract e56 rfl) rfl hJ) ?_
     refine all_cons (by
       refine ⟨?_, ?_⟩
       ·rintro ⟨a81, c82, a87, c88, b89⟩ ρ σm hJ hoff hdep
        obtain ⟨H, m⟩ := id hJ
        refine dp_ex wn (ex_alloc (cs := [(I 0), (.slice none 0 0), (I 0)]) H hn0 ti41 rfl) ?_
        rintro _ σq ⟨b89x, rfl, H2, m2⟩
        exact ⟨_, (a81, c82, a87, c88, b89x), rfl, rfl, ⟨H2.sel' [0, 1, 2, 3, 4, 5, 6, 7, 8, 9, 10, 11, 12, 13] rfl rfl, m.comp0 m2⟩, stab [0, 1, 2, 3, 4, 5, 6, 7, 8, 9] (by kernel_rfl) ⟨rfl, rfl, rfl, rfl, rfl, rfl, rfl, rfl, rfl, rfl, trivial⟩⟩
       refine ⟨?_, ?_⟩
       ·rintro ⟨a81, c82, a87, c88, b89⟩ ρ σm hJ hoff hdep
        obtain ⟨H, m⟩ := id hJ
        refine dp_ex wn (ex_alloc (cs := [(I 0), (.slice none 0 0), (I 0)]) H hn0 ti41 rfl) ?_
        rintro _ σq ⟨b89x, rfl, H2, m2⟩
        exact ⟨_, (a81, c82, a87, c88, b89x), rfl, rfl, ⟨H2.sel' [0, 1, 2, 3, 4, 5, 6, 7, 8, 9, 10, 11, 12, 13, 14] rfl rfl, m.comp0 m2⟩, stab [0, 1, 2, 3, 4, 5, 6, 7, 8, 9] (by kernel_rfl) ⟨rfl, rfl, rfl, rfl, rfl, rfl, rfl, rfl, rfl, rfl, trivial⟩⟩
       refine ⟨?_, ?_⟩
       ·rintro ⟨a81, c82, a87, c88, b89⟩ ρ σm hJ hoff hdep
        obtain ⟨H, m⟩ := id hJ
        refine dp_ex wn (ex_alloc (cs := [(I 0), (.slice none 0 0), (I 0)]) H hn0 ti41 rfl) ?_
        rintro _ σq ⟨b89x, rfl, H2, m2⟩
        exact ⟨_, (a81, c82, a87, c88, b89x), rfl, rfl, ⟨H2.sel' [0, 1, 2, 3, 4, 5, 6, 7, 8, 9, 10, 11, 12, 13, 14, 15] rfl rfl, m.comp0 m2⟩, stab [0, 1, 2, 3, 4, 5, 6, 7, 8, 9] (by kernel_rfl) ⟨rfl, rfl, rfl, rfl, rfl, rfl, rfl, rfl, rfl, rfl, trivial⟩⟩
       trivial) ?_
     refine all_cons (by
       refine ⟨?_, ?_⟩
       ·rintro ⟨a81, c82, a87, c88, b89⟩ ρ σm hJ hoff hdep
        have e10 := hdep 10 rfl rfl 10 rfl
        have e64 := hdep 8 rfl rfl 64 rfl
        obtain ⟨H, m⟩ := id hJ
        refine dp_exS wn rfl (ex_store_box (k := 0) (cs := [(I 0), (.slice none 0 0), (I 0)]) (vs := [(I r84.1.1), (Sl a87 r84.1.2.1 c88), (I r84.1.2.2)]) (cs' := [(I r84.1.1), (Sl a87 r84.1.2.1 c88), (I r84.1.2.2)]) H (i := 0) rfl ti41 e10 rfl e64 rfl rfl (Nat.le_of_ble_eq_true rfl) (by simp [plain]) rfl) ?_
        rintro σq ⟨H2, m2⟩
        exact ⟨_, (a81, c82, a87, c88, b89), rfl, ⟨H2.sel' [0, 1, 2, 3, 4, 5, 6, 7, 8, 9, 10, 11, 12, 13, 14, 15] rfl rfl, m.comp m2⟩, stab [0, 1, 2, 3, 4, 5, 6, 7, 8, 9, 10] (by kernel_rfl) ⟨rfl, rfl, rfl, rfl, rfl, rfl, rfl, rfl, rfl, rfl, rfl, trivial⟩⟩
       trivial) ?_
     exact all_nil
    ·rintro ⟨a81, c82, a87, c88, b89⟩ ρ σ90 hJ hoff hrel
     have e3 := look_off (N := 96) (hoff 3 rfl) rfl
     have e4 := look_off (N := 96) (hoff 4 rfl) rfl
     have e5 := look_off (N := 96) (hoff 5 rfl) rfl
     have e6 := look_off (N := 96) (hoff 6 rfl) rfl
     have e10 := hrel 10 rfl 10 rfl
     have e65 := hrel 9 rfl 65 rfl
     obtain ⟨H, -⟩ := (show Hp S0 σ0 σ90 [Ch.bx n0 b89 0 [(I r84.1.1), (Sl a87 r84.1.2.1 c88), (I r84.1.2.2)] [] [], Ch.own n0 n0 (Sl a87 r84.1.2.1 c88) r84.1.2.1, Ch.ro 0 (Sl a81 r78 c82) r78, Ch.ro 0 (Sl a26 r20.1.2 c27) r20.1.2, Ch.ro 0 (Sl a23 r20.1.1 c24) r20.1.1, Ch.ro n0 (Sl a9 r2.2.1.2.2.1 c10) r2.2.1.2.2.1, Ch.ro n0 (Sl a26 r20.1.2 c27) r20.1.2, Ch.ro n0 (Sl a23 r20.1.1 c24) r20.1.1, Ch.own n0 n0 (Sl a5 r2.1.1 c6) r2.1.1, Ch.own n0 n0 (Sl a7 r2.1.2 c8) r2.1.2, Ch.bx n0 b12 0 [(Sl a5 r2.1.1 c6), (Sl a7 r2.1.2 c8)] [] [], Ch.bx n0 b14 0 [(I r2.2.1.1), (I r2.2.1.2.1), (Sl a9 r2.2.1.2.2.1 c10), (I r2.2.1.2.2.2)] [] [], Ch.bx n0 b29 0 [(Sl a23 r20.1.1 c24), (Sl a26 r20.1.2 c27)] [] [], Ch.own n0 n0 (Sl a37 r34.1.1 c38) r34.1.1, Ch.own n0 n0 (Sl a39 r34.1.2 c40) r34.1.2, Ch.bx n0 b42 0 [(Sl a37 r34.1.1 c38), (Sl a39 r34.1.2 c40)] [] []] ∧ Md (fun i => (fun i => (cov []) i ∨ (fun i => (cov [Ch.ro 0 (Sl a23 r20.1.1 c24) r20.1.1, Ch.ro 0 (Sl a26 r20.1.2 c27) r20.1.2]) i ∨ (fun b => blk (Sl a81 r78 c82) = some b) i) i) i ∨ (fun i => i = b89) i) σ75 σ90 from hJ)
     clear hJ Hs
     rw [fr_lookL (L := [(3, (pt b12 0)), (4, (pt b14 0)), (5, (I r2.2.2)), (6, (pt b29 0)), (10, (pt b89 0)), (65, (B r84.2))]) ⟨e3, e4, e5, e6, e10, e65, trivial⟩]
     clear hoff hrel e3 e4 e5 e6 e10 e65
     refine sa (B r84.2) rfl (w_end (q_then (c_seq ?_)))
     obtain ⟨σ91, hw92, H, -⟩ := H.pub 8 rfl (Nat.le_refl _)
     rw [← hw92]; clear hw92
     obtain ⟨σ93, hw94, H, -⟩ := H.pub 9 rfl (Nat.le_refl _)
     rw [← hw94]; clear hw94
     have hc95 := H.cells 12 rfl
     replace H := H.roLow 9 0 rfl (Nat.zero_le _)
     replace H := H.roLow 9 0 rfl (Nat.zero_le _)
     revert h; refine br fun r96 hx97 h => ?_
     have hc98 := c_impl_StoreAt (Cd := a23) (Ce := c24) (Cf := a26) (Cg := c27) hx97
     have hc101 := H.cells 12 rfl
     replace H := H.roLow 3 0 rfl (Nat.zero_le _)
     replace H := H.roLow 3 0 rfl (Nat.zero_le _)
     revert h; refine br fun r102 hx103 h => ?_
     have hc104 := c_impl_StoreAt (Cd := a5) (Ce := c6) (Cf := a7) (Cg := c8) hx103
     revert h; refine br fun r107 hx108 h => ?_
     have hc109 := fun (a99 : Option Addr) (c100 : Nat) (a105 : Option Addr) (c106 : Nat) => c_laws_equalItems (Ct := a99) (Cu := c100) (Cv := a105) (Cw := c106) hx108
     rcases Bool.eq_false_or_eq_true r107 with hb110 | hb110
     ·replace h := bif_t hb110 h
      have hc111 := H.cell (u := (I r2.2.1.1)) (o' := 0) 15 0 rfl rfl rfl
      rcases Bool.eq_false_or_eq_true (r84.2 == (r2.2.1.1 == 1)) with hb112 | hb112
      ·replace h := bif_t hb112 h
       rcases Bool.eq_false_or_eq_true (!r84.2) with hb113 | hb113
       ·replace h := bif_t hb113 h
        have Hs := H
        refine rg2 (σ := σ93) (Nm := (Option Addr) × (Nat) × (Option Addr) × (Nat)) 23 [3, 7, 8] [[false, false, false], [true, false, false], [true, true, false], [true, true, true]] [[(0, 0)], [(0, 0)], [(0, 0)], [(0, 1)], [(0, 0), (1, 1)], [(0, 0), (1, 1)], [(0, 0), (1, 1)], [(1, 2)], [(2, 3)], [(3, 3)], [(3, 3)], [(3, 3)], [(3, 3)], [(3, 3)], [(3, 3)], [(3, 3)], [(3, 3)], [(3, 3)], [(3, 3)], [(3, 3)], [(3, 3)], [(3, 3)], [(3, 3)]] 3 [fun ((a99, c100, a105, c106) : (Option Addr) × (Nat) × (Option Addr) × (Nat)) => fun σm => Hp S0 σ0 σm [Ch.ro 0 (Sl a7 r2.1.2 c8) r2.1.2, Ch.ro 0 (Sl a5 r2.1.1 c6) r2.1.1, Ch.ro 0 (Sl a26 r20.1.2 c27) r20.1.2, Ch.ro 0 (Sl a23 r20.1.1 c24) r20.1.1, Ch.ro n0 (Sl a7 r2.1.2 c8) r2.1.2, Ch.ro n0 (Sl a5 r2.1.1 c6) r2.1.1, Ch.bx n0 b89 0 [(I r84.1.1), (Sl a87 r84.1.2.1 c88), (I r84.1.2.2)] [] [], Ch.own n0 n0 (Sl a87 r84.1.2.1 c88) r84.1.2.1, Ch.ro 0 (Sl a81 r78 c82) r78, Ch.ro 0 (Sl a26 r20.1.2 c27) r20.1.2, Ch.ro 0 (Sl a23 r20.1.1 c24) r20.1.1, Ch.ro n0 (Sl a9 r2.2.1.2.2.1 c10) r2.2.1.2.2.1, Ch.ro n0 (Sl a26 r20.1.2 c27) r20.1.2, Ch.ro n0 (Sl a23 r20.1.1 c24) r20.1.1, Ch.bx n0 b12 0 [(Sl a5 r2.1.1 c6), (Sl a7 r2.1.2 c8)] [] [], Ch.bx n0 b14 0 [(I r2.2.1.1), (I r2.2.1.2.1), (Sl a9 r2.2.1.2.2.1 c10), (I r2.2.1.2.2.2)] [] [], Ch.bx n0 b29 0 [(Sl a23 r20.1.1 c24), (Sl a26 r20.1.2 c27)] [] [], Ch.own n0 n0 (Sl a37 r34.1.1 c38) r34.1.1, Ch.own n0 n0 (Sl a39 r34.1.2 c40) r34.1.2, Ch.bx n0 b42 0 [(Sl a37 r34.1.1 c38), (Sl a39 r34.1.2 c40)] [] []] ∧ Md (cov []) σ93 σm, fun ((a99, c100, a105, c106) : (Option Addr) × (Nat) × (Option Addr) × (Nat)) => fun σm => Hp S0 σ0 σm [Ch.ro 0 (Sl a99 r96 c100) r96, Ch.ro 0 (Sl a7 r2.1.2 c8) r2.1.2, Ch.ro 0 (Sl a5 r2.1.1 c6) r2.1.1, Ch.ro 0 (Sl a26 r20.1.2 c27) r20.1.2, Ch.ro 0 (Sl a23 r20.1.1 c24) r20.1.1, Ch.ro n0 (Sl a7 r2.1.2 c8) r2.1.2, Ch.ro n0 (Sl a5 r2.1.1 c6) r2.1.1, Ch.bx n0 b89 0 [(I r84.1.1), (Sl a87 r84.1.2.1 c88), (I r84.1.2.2)] [] [], Ch.own n0 n0 (Sl a87 r84.1.2.1 c88) r84.1.2.1, Ch.ro 0 (Sl a81 r78 c82) r78, Ch.ro 0 (Sl a26 r20.1.2 c27) r20.1.2, Ch.ro 0 (Sl a23 r20.1.1 c24) r20.1.1, Ch.ro n0 (Sl a9 r2.2.1.2.2.1 c10) r2.2.1.2.2.1, Ch.ro n0 (Sl a26 r20.1.2 c27) r20.1.2, Ch.ro n0 (Sl a23 r20.1.1 c24) r20.1.1, Ch.bx n0 b12 0 [(Sl a5 r2.1.1 c6), (Sl a7 r2.1.2 c8)] [] [], Ch.bx n0 b14 0 [(I r2.2.1.1), (I r2.2.1.2.1), (Sl a9 r2.2.1.2.2.1 c10), (I r2.2.1.2.2.2)] [] [], Ch.bx n0 b29 0 [(Sl a23 r20.1.1 c24), (Sl a26 r20.1.2 c27)] [] [], Ch.own n0 n0 (Sl a37 r34.1.1 c38) r34.1.1, Ch.own n0 n0 (Sl a39 r34.1.2 c40) r34.1.2, Ch.bx n0 b42 0 [(Sl a37 r34.1.1 c38), (Sl a39 r34.1.2 c40)] [] []] ∧ Md (fun i => (cov []) i ∨ (fun i => (cov [Ch.ro 0 (Sl a23 r20.1.1 c24) r20.1.1, Ch.ro 0 (Sl a26 r20.1.2 c27) r20.1.2]) i ∨ (fun b => blk (Sl a99 r96 c100) = some b) i) i) σ93 σm, fun ((a99, c100, a105, c106) : (Option Addr) × (Nat) × (Option Addr) × (Nat)) => fun σm => Hp S0 σ0 σm [Ch.ro 0 (Sl a105 r102 c106) r102, Ch.ro 0 (Sl a99 r96 c100) r96, Ch.ro 0 (Sl a7 r2.1.2 c8) r2.1.2, Ch.ro 0 (Sl a5 r2.1.1 c6) r2.1.1, Ch.ro 0 (Sl a26 r20.1.2 c27) r20.1.2, Ch.ro 0 (Sl a23 r20.1.1 c24) r20.1.1, Ch.ro n0 (Sl a7 r2.1.2 c8) r2.1.2, Ch.ro n0 (Sl a5 r2.1.1 c6) r2.1.1, Ch.bx n0 b89 0 [(I r84.1.1), (Sl a87 r84.1.2.1 c88), (I r84.1.2.2)] [] [], Ch.own n0 n0 (Sl a87 r84.1.2.1 c88) r84.1.2.1, Ch.ro 0 (Sl a81 r78 c82) r78, Ch.ro 0 (Sl a26 r20.1.2 c27) r20.1.2, Ch.ro 0 (Sl a23 r20.1.1 c24) r20.1.1, Ch.ro n0 (Sl a9 r2.2.1.2.2.1 c10) r2.2.1.2.2.1, Ch.ro n0 (Sl a26 r20.1.2 c27) r20.1.2, Ch.ro n0 (Sl a23 r20.1.1 c24) r20.1.1, Ch.bx n0 b12 0 [(Sl a5 r2.1.1 c6), (Sl a7 r2.1.2 c8)] [] [], Ch.bx n0 b14 0 [(I r2.2.1.1), (I r2.2.1.2.1), (Sl a9 r2.2.1.2.2.1 c10), (I r2.2.1.2.2.2)] [] [], Ch.bx n0 b29 0 [(Sl a23 r20.1.1 c24), (Sl a26 r20.1.2 c27)] [] [], Ch.own n0 n0 (Sl a37 r34.1.1 c38) r34.1.1, Ch.own n0 n0 (Sl a39 r34.1.2 c40) r34.1.2, Ch.bx n0 b42 0 [(Sl a37 r34.1.1 c38), (Sl a39 r34.1.2 c40)] [] []] ∧ Md (fun i => (fun i => (cov []) i ∨ (fun i => (cov [Ch.ro 0 (Sl a23 r20.1.1 c24) r20.1.1, Ch.ro 0 (Sl a26 r20.1.2 c27) r20.1.2]) i ∨ (fun b => blk (Sl a99 r96 c100) = some b) i) i) i ∨ (fun i => (cov [Ch.ro 0 (Sl a5 r2.1.1 c6) r2.1.1, Ch.ro 0 (Sl a7 r2.1.2 c8) r2.1.2]) i ∨ (fun b => blk (Sl a105 r102 c106) = some b) i) i) σ93 σm, fun ((a99, c100, a105, c106) : (Option Addr) × (Nat) × (Option Addr) × (Nat)) => fun σm => Hp S0 σ0 σm [Ch.ro 0 (Sl a105 r102 c106) r102, Ch.ro 0 (Sl a99 r96 c100) r96, Ch.ro 0 (Sl a7 r2.1.2 c8) r2.1.2, Ch.ro 0 (Sl a5 r2.1.1 c6) r2.1.1, Ch.ro 0 (Sl a26 r20.1.2 c27) r20.1.2, Ch.ro 0 (Sl a23 r20.1.1 c24) r20.1.1, Ch.ro n0 (Sl a7 r2.1.2 c8) r2.1.2, Ch.ro n0 (Sl a5 r2.1.1 c6) r2.1.1, Ch.bx n0 b89 0 [(I r84.1.1), (Sl a87 r84.1.2.1 c88), (I r84.1.2.2)] [] [], Ch.own n0 n0 (Sl a87 r84.1.2.1 c88) r84.1.2.1, Ch.ro 0 (Sl a81 r78 c82) r78, Ch.ro 0 (Sl a26 r20.1.2 c27) r20.1.2, Ch.ro 0 (Sl a23 r20.1.1 c24) r20.1.1, Ch.ro n0 (Sl a9 r2.2.1.2.2.1 c10) r2.2.1.2.2.1, Ch.ro n0 (Sl a26 r20.1.2 c27) r20.1.2, Ch.ro n0 (Sl a23 r20.1.1 c24) r20.1.1, Ch.bx n0 b12 0 [(Sl a5 r2.1.1 c6), (Sl a7 r2.1.2 c8)] [] [], Ch.bx n0 b14 0 [(I r2.2.1.1), (I r2.2.1.2.1), (Sl a9 r2.2.1.2.2.1 c10), (I r2.2.1.2.2.2)] [] [], Ch.bx n0 b29 0 [(Sl a23 r20.1.1 c24), (Sl a26 r20.1.2 c27)] [] [], Ch.own n0 n0 (Sl a37 r34.1.1 c38) r34.1.1, Ch.own n0 n0 (Sl a39 r34.1.2 c40) r34.1.2, Ch.bx n0 b42 0 [(Sl a37 r34.1.1 c38), (Sl a39 r34.1.2 c40)] [] []] ∧ Md (fun i => (fun i => (cov []) i ∨ (fun i => (cov [Ch.ro 0 (Sl a23 r20.1.1 c24) r20.1.1, Ch.ro 0 (Sl a26 r20.1.2 c27) r20.1.2]) i ∨ (fun b => blk (Sl a99 r96 c100) = some b) i) i) i ∨ (fun i => (cov [Ch.ro 0 (Sl a5 r2.1.1 c6) r2.1.1, Ch.ro 0 (Sl a7 r2.1.2 c8) r2.1.2]) i ∨ (fun b => blk (Sl a105 r102 c106) = some b) i) i) σ93 σm] [fun ((a99, c100, a105, c106) : (Option Addr) × (Nat) × (Option Addr) × (Nat)) => (.agg #[(Sl a23 r20.1.1 c24), (Sl a26 r20.1.2 c27)]), fun ((a99, c100, a105, c106) : (Option Addr) × (Nat) × (Option Addr) × (Nat)) => (I r2.2.2), fun ((a99, c100, a105, c106) : (Option Addr) × (Nat) × (Option Addr) × (Nat)) => (I (w64 (r2.2.2 - 1))), fun ((a99, c100, a105, c106) : (Option Addr) × (Nat) × (Option Addr) × (Nat)) => (Sl a99 r96 c100), fun ((a99, c100, a105, c106) : (Option Addr) × (Nat) × (Option Addr) × (Nat)) => (.agg #[(Sl a5 r2.1.1 c6), (Sl a7 r2.1.2 c8)]), fun ((a99, c100, a105, c106) : (Option Addr) × (Nat) × (Option Addr) × (Nat)) => (I r2.2.2), fun ((a99, c100, a105, c106) : (Option Addr) × (Nat) × (Option Addr) × (Nat)) => (I (w64 (r2.2.2 - 1))), fun ((a99, c100, a105, c106) : (Option Addr) × (Nat) × (Option Addr) × (Nat)) => (Sl a105 r102 c106), fun ((a99, c100, a105, c106) : (Option Addr) × (Nat) × (Option Addr) × (Nat)) => (B r107), fun ((a99, c100, a105, c106) : (Option Addr) × (Nat) × (Option Addr) × (Nat)) => (B r107), fun ((a99, c100, a105, c106) : (Option Addr) × (Nat) × (Option Addr) × (Nat)) => (B r84.2), fun ((a99, c100, a105, c106) : (Option Addr) × (Nat) × (Option Addr) × (Nat)) => (pt b14 0), fun ((a99, c100, a105, c106) : (Option Addr) × (Nat) × (Option Addr) × (Nat)) => (I r2.2.1.1), fun ((a99, c100, a105, c106) : (Option Addr) × (Nat) × (Option Addr) × (Nat)) => (B (r2.2.1.1 == 1)), fun ((a99, c100, a105, c106) : (Option Addr) × (Nat) × (Option Addr) × (Nat)) => (B (r84.2 == (r2.2.1.1 == 1))), fun ((a99, c100, a105, c106) : (Option Addr) × (Nat) × (Option Addr) × (Nat)) => (B (r84.2 == (r2.2.1.1 == 1))), fun ((a99, c100, a105, c106) : (Option Addr) × (Nat) × (Option Addr) × (Nat)) => (B (r84.2 == (r2.2.1.1 == 1))), fun ((a99, c100, a105, c106) : (Option Addr) × (Nat) × (Option Addr) × (Nat)) => (B r84.2), fun ((a99, c100, a105, c106) : (Option Addr) × (Nat) × (Option Addr) × (Nat)) => (B (!r84.2)), fun ((a99, c100, a105, c106) : (Option Addr) × (Nat) × (Option Addr) × (Nat)) => (B (!r84.2)), fun ((a99, c100, a105, c106) : (Option Addr) × (Nat) × (Option Addr) × (Nat)) => undef, fun ((a99, c100, a105, c106) : (Option Addr) × (Nat) × (Option Addr) × (Nat)) => undef, fun ((a99, c100, a105, c106) : (Option Addr) × (Nat) × (Option Addr) × (Nat)) => undef] (none, 0, none, 0) (by kernel_rfl) (by kernel_rfl) ?_ ?_ ?_
        ·intro σm m0
         exact ⟨H.grow (m0.mono fun _ h => h.elim), m0⟩
        ·refine all_cons (by
           refine ⟨?_, ?_⟩
           ·rintro ⟨a99, c100, a105, c106⟩ ρ σm hJ hoff hdep
            have e6 := look_off (N := 96) (hoff 6 rfl) rfl
            obtain ⟨H, m⟩ := id hJ
            have hc95 := H.cells 16 rfl
            exact dp_v (v := (.agg #[(Sl a23 r20.1.1 c24), (Sl a26 r20.1.2 c27)])) wn (rv_load (cs := [(Sl a23 r20.1.1 c24), (Sl a26 r20.1.2 c27)]) Try.underlying26 rfl ti26 e6 rfl hc95) rfl hJ
           trivial) ?_
         refine ac rfl (by
           intro k; rintro ⟨a99, c100, a105, c106⟩ ρ σm hJ hoff hdep
           have e5 := look_off (N := 96) (hoff 5 rfl) rfl
           exact dp_v (v := (I r2.2.2)) wn (rv_move e5) rfl hJ) ?_
         refine ac rfl (by
           intro k; rintro ⟨a99, c100, a105, c106⟩ ρ σm hJ hoff hdep
           have e67 := hdep 1 rfl rfl 67 rfl
           exact dp_v (v := (I (w64 (r2.2.2 - 1)))) wn (rv_sub (a := r2.2.2) (b := 1) e67 rfl) rfl hJ) ?_
         refine all_cons (by
           refine ⟨?_, ?_⟩
           ·rintro ⟨a99, c100, a105, c106⟩ ρ σm hJ hoff hdep
            have e66 : look 96 ρ 66 = (.agg #[(Sl a23 r20.1.1 c24), (Sl a26 r20.1.2 c27)]) := hdep 0 rfl rfl 66 rfl
            have e68 : look 96 ρ 68 = (I (w64 (r2.2.2 - 1))) := hdep 2 rfl rfl 68 rfl
            obtain ⟨H, m⟩ := id hJ
            refine dp_cx wn (cx_call hc98 (ent_f hc98.fn (by show [look 96 ρ 66, look 96 ρ 68] = _; rw [e66, e68])) hn0 (H.sel' [3, 2, 0, 1, 2, 3, 4, 5, 6, 7, 8, 9, 10, 11, 12, 13, 14, 15, 16, 17, 18, 19] rfl rfl : Hp S0 σ0 _ ([_, _] ++ _))) ?_
            rintro _ σq ⟨_, ⟨a99x, c100x, rfl, rfl⟩, H2, m2⟩
            obtain ⟨σr0, hwr0, H2, mr0⟩ := H2.pub 0 rfl (Nat.le_refl _)
            exact ⟨_, (a99x, c100x, a105, c106), hwr0, rfl, ⟨H2.sel' [0, 1, 2, 3, 4, 5, 6, 7, 8, 9, 10, 11, 12, 13, 14, 15, 16, 17, 18, 19, 20] rfl rfl, m.comp (m2.comp mr0)⟩, stab [0, 1, 2, 4, 5, 6] (by kernel_rfl) ⟨rfl, rfl, rfl, rfl, rfl, rfl, trivial⟩⟩
           trivial) ?_
         refine all_cons (by
           refine ⟨?_, ?_⟩
           ·rintro ⟨a99, c100, a105, c106⟩ ρ σm hJ hoff hdep
            have e3 := look_off (N := 96) (hoff 3 rfl) rfl
            obtain ⟨H, m⟩ := id hJ
            have hc101 := H.cells 14 rfl
            exact dp_v (v := (.agg #[(Sl a5 r2.1.1 c6), (Sl a7 r2.1.2 c8)])) wn (rv_load (cs := [(Sl a5 r2.1.1 c6), (Sl a7 r2.1.2 c8)]) Try.underlying26 rfl ti26 e3 rfl hc101) rfl hJ
           refine ⟨?_, ?_⟩
           ·rintro ⟨a99, c100, a105, c106⟩ ρ σm hJ hoff hdep
            have e3 := look_off (N := 96) (hoff 3 rfl) rfl
            obtain ⟨H, m⟩ := id hJ
            have hc101 := H.cells 15 rfl
            exact dp_v (v := (.agg #[(Sl a5 r2.1.1 c6), (Sl a7 r2.1.2 c8)])) wn (rv_load (cs := [(Sl a5 r2.1.1 c6), (Sl a7 r2.1.2 c8)]) Try.underlying26 rfl ti26 e3 rfl hc101) rfl hJ
           trivial) ?_
         refine ac rfl (by
           intro k; rintro ⟨a99, c100, a105, c106⟩ ρ σm hJ hoff hdep
           have e5 := look_off (N := 96) (hoff 5 rfl) rfl
           exact dp_v (v := (I r2.2.2)) wn (rv_move e5) rfl hJ) ?_
         refine ac rfl (by
           intro k; rintro ⟨a99, c100, a105, c106⟩ ρ σm hJ hoff hdep
           have e71 := hdep 5 rfl rfl 71 rfl
           exact dp_v (v := (I (w64 (r2.2.2 - 1)))) wn (rv_sub (a := r2.2.2) (b := 1) e71 rfl) rfl hJ) ?_
         refine all_cons (by
           refine ⟨?_, ?_⟩
           ·rintro ⟨a99, c100, a105, c106⟩ ρ σm hJ hoff hdep
            have e70 : look 96 ρ 70 = (.agg #[(Sl a5 r2.1.1 c6), (Sl a7 r2.1.2 c8)]) := hdep 4 rfl rfl 70 rfl
            have e72 : look 96 ρ 72 = (I (w64 (r2.2.2 - 1))) := hdep 6 rfl rfl 72 rfl
            obtain ⟨H, m⟩ := id hJ
            refine dp_cx wn (cx_call hc104 (ent_f hc104.fn (by show [look 96 ρ 70, look 96 ρ 72] = _; rw [e70, e72])) hn0 (H.sel' [2, 1, 0, 1, 2, 3, 4, 5, 6, 7, 8, 9, 10, 11, 12, 13, 14, 15, 16, 17, 18, 19, 20] rfl rfl : Hp S0 σ0 _ ([_, _] ++ _))) ?_
            rintro _ σq ⟨_, ⟨a105x, c106x, rfl, rfl⟩, H2, m2⟩
            obtain ⟨σr0, hwr0, H2, mr0⟩ := H2.pub 0 rfl (Nat.le_refl _)
            exact ⟨_, (a99, c100, a105x, c106x), hwr0, rfl, ⟨H2.sel' [0, 1, 2, 3, 4, 5, 6, 7, 8, 9, 10, 11, 12, 13, 14, 15, 16, 17, 18, 19, 20, 21] rfl rfl, m.comp (m2.comp mr0)⟩, stab [0, 1, 2, 3, 4, 5, 6] (by kernel_rfl) ⟨rfl, rfl, rfl, rfl, rfl, rfl, rfl, trivial⟩⟩
           trivial) ?_
         refine all_cons (by
           refine ⟨?_, ?_⟩
           ·rintro ⟨a99, c100, a105, c106⟩ ρ σm hJ hoff hdep
            have e69 : look 96 ρ 69 = (Sl a99 r96 c100) := hdep 3 rfl rfl 69 rfl
            have e73 : look 96 ρ 73 = (Sl a105 r102 c106) := hdep 7 rfl rfl 73 rfl
            obtain ⟨H, m⟩ := id hJ
            refine dp_cx wn (cx_call (hc109 a99 c100 a105 c106) (ent_f (hc109 a99 c100 a105 c106).fn (by show [look 96 ρ 69, look 96 ρ 73] = _; rw [e69, e73])) hn0 (H.sel' [1, 0, 0, 1, 2, 3, 4, 5, 6, 7, 8, 9, 10, 11, 12, 13, 14, 15, 16, 17, 18, 19, 20, 21] rfl rfl : Hp S0 σ0 _ ([_, _] ++ _))) ?_
            rintro _ σq ⟨_, ⟨rfl, rfl⟩, H2, m2⟩
            exact ⟨_, (a99, c100, a105, c106), rfl, rfl, ⟨H2.sel' [0, 1, 2, 3, 4, 5, 6, 7, 8, 9, 10, 11, 12, 13, 14, 15, 16, 17, 18, 19, 20, 21] rfl rfl, m.comp0 (m2.mono (fun i h => by simp [cov, Ch.ro] at h))⟩, stab [0, 1, 2, 3, 4, 5, 6, 7] (by kernel_rfl) ⟨rfl, rfl, rfl, rfl, rfl, rfl, rfl, rfl, trivial⟩⟩
           trivial) ?_
         refine ac rfl (by
           intro k; rintro ⟨a99, c100, a105, c106⟩ ρ σm hJ hoff hdep
           have e74 := hdep 8 rfl rfl 74 rfl
           exact dp_v (v := (B r107)) wn (rv_move e74) rfl hJ) ?_
         refine ac rfl (by
           intro k; rintro ⟨a99, c100, a105, c106⟩ ρ σm hJ hoff hdep
           have e11 := look_off (N := 96) (hoff 11 rfl) rfl
           have e75 := hdep 9 rfl rfl 75 rfl
           exact dp_v (v := (B r84.2)) (wanted_yes rfl (yv_of rfl (e75.trans (congrArg B hb110)))) (rv_move e11) rfl hJ) ?_
         refine ac rfl (by
           intro k; rintro ⟨a99, c100, a105, c106⟩ ρ σm hJ hoff hdep
           have e4 := look_off (N := 96) (hoff 4 rfl) rfl
           have e75 := hdep 9 rfl rfl 75 rfl
           exact dp_v (v := (pt b14 0)) (wanted_yes rfl (yv_of rfl (e75.trans (congrArg B hb110)))) (rv_fieldAddr (off := 0) (ft := 3) Try.underlying43 rfl ti3 rfl e4) rfl hJ) ?_
         refine all_cons (by
           refine ⟨?_, ?_⟩
           ·rintro ⟨a99, c100, a105, c106⟩ ρ σm hJ hoff hdep
            have e77 := hdep 11 rfl rfl 77 rfl
            have e75 := hdep 9 rfl rfl 75 rfl
            obtain ⟨H, m⟩ := id hJ
            have hc111 := H.cell (u := (I r2.2.1.1)) (o' := 0) 17 0 rfl rfl rfl
            exact dp_v (v := (I r2.2.1.1)) (wanted_yes rfl (yv_of rfl (e75.trans (congrArg B hb110)))) (rv_load1 Try.underlying3 rfl e77 hc111) rfl hJ
           trivial) ?_
         refine ac rfl (by
           intro k; rintro ⟨a99, c100, a105, c106⟩ ρ σm hJ hoff hdep
           have e78 := hdep 12 rfl rfl 78 rfl
           have e75 := hdep 9 rfl rfl 75 rfl
           exact dp_v (v := (B (r2.2.1.1 == 1))) (wanted_yes rfl (yv_of rfl (e75.trans (congrArg B hb110)))) (rv_eql (a := r2.2.1.1) (b := 1) e78 rfl) rfl hJ) ?_
         refine ac rfl (by
           intro k; rintro ⟨a99, c100, a105, c106⟩ ρ σm hJ hoff hdep
           have e76 := hdep 10 rfl rfl 76 rfl
           have e79 := hdep 13 rfl rfl 79 rfl
           have e75 := hdep 9 rfl rfl 75 rfl
           exact dp_v (v := (B (r84.2 == (r2.2.1.1 == 1)))) (wanted_yes rfl (yv_of rfl (e75.trans (congrArg B hb110)))) (rv_beql Try.underlying4 e76 e79) rfl hJ) ?_
         refine ac rfl (by
           intro k; rintro ⟨a99, c100, a105, c106⟩ ρ σm hJ hoff hdep
           have e75 := hdep 9 rfl rfl 75 rfl
           have e80 := hdep 14 rfl rfl 80 rfl
           exact dp_v (v := (B (r84.2 == (r2.2.1.1 == 1)))) wn (rv_pick_t (e75.trans (congrArg B hb110)) e80) rfl hJ) ?_
         refine ac rfl (by
           intro k; rintro ⟨a99, c100, a105, c106⟩ ρ σm hJ hoff hdep
           have e81 := hdep 15 rfl rfl 81 rfl
           exact dp_v (v := (B (r84.2 == (r2.2.1.1 == 1)))) wn (rv_move e81) rfl hJ) ?_
         refine ac rfl (by
           intro k; rintro ⟨a99, c100, a105, c106⟩ ρ σm hJ hoff hdep
           have e11 := look_off (N := 96) (hoff 11 rfl) rfl
           have e82 := hdep 16 rfl rfl 82 rfl
           exact dp_v (v := (B r84.2)) (wanted_yes rfl (yv_of rfl (e82.trans (congrArg B hb112)))) (rv_move e11) rfl hJ) ?_
         refine ac rfl (by
           intro k; rintro ⟨a99, c100, a105, c106⟩ ρ σm hJ hoff hdep
           have e83 := hdep 17 rfl rfl 83 rfl
           have e82 := hdep 16 rfl rfl 82 rfl
           exact dp_v (v := (B (!r84.2))) (wanted_yes rfl (yv_of rfl (e82.trans (congrArg B hb112)))) (rv_not e83) rfl hJ) ?_
         refine ac rfl (by
           intro k; rintro ⟨a99, c100, a105, c106⟩ ρ σm hJ hoff hdep
           have e84 := hdep 18 rfl rfl 84 rfl
           have e82 := hdep 16 rfl rfl 82 rfl
           exact dp_v (v := (B (!r84.2))) (wanted_yes rfl (yv_of rfl (e82.trans (congrArg B hb112)))) (rv_move e84) rfl hJ) ?_
         refine ac rfl (by
           intro k; rintro ⟨a99, c100, a105, c106⟩ ρ σm hJ hoff hdep
           have e85 := hdep 19 rfl rfl 85 rfl
           exact dp_skip (wanted_no rfl (yv_of rfl (e85.trans (congrArg B hb113)))) rfl hJ) ?_
         refine ac rfl (by
           intro k; rintro ⟨a99, c100, a105, c106⟩ ρ σm hJ hoff hdep
           have e85 := hdep 19 rfl rfl 85 rfl
           exact dp_skip (wanted_no rfl (yv_of rfl (e85.trans (congrArg B hb113)))) rfl hJ) ?_
         refine ac rfl (by
           intro k; rintro ⟨a99, c100, a105, c106⟩ ρ σm hJ hoff hdep
           have e85 := hdep 19 rfl rfl 85 rfl
           exact dp_skip (wanted_no rfl (yv_of rfl (e85.trans (congrArg B hb113)))) rfl hJ) ?_
         exact all_nil
        ·rintro ⟨a99, c100, a105, c106⟩ ρ σ114 hJ hoff hrel
         have e6 := look_off (N := 96) (hoff 6 rfl) rfl
         have e82 := hrel 16 rfl 82 rfl
         have e85 := hrel 19 rfl 85 rfl
         have e86 := hrel 20 rfl 86 rfl
         have e88 := hrel 22 rfl 88 rfl
         obtain ⟨H, -⟩ := (show Hp S0 σ0 σ114 [Ch.ro 0 (Sl a105 r102 c106) r102, Ch.ro 0 (Sl a99 r96 c100) r96, Ch.ro 0 (Sl a7 r2.1.2 c8) r2.1.2, Ch.ro 0 (Sl a5 r2.1.1 c6) r2.1.1, Ch.ro 0 (Sl a26 r20.1.2 c27) r20.1.2, Ch.ro 0 (Sl a23 r20.1.1 c24) r20.1.1, Ch.ro n0 (Sl a7 r2.1.2 c8) r2.1.2, Ch.ro n0 (Sl a5 r2.1.1 c6) r2.1.1, Ch.bx n0 b89 0 [(I r84.1.1), (Sl a87 r84.1.2.1 c88), (I r84.1.2.2)] [] [], Ch.own n0 n0 (Sl a87 r84.1.2.1 c88) r84.1.2.1, Ch.ro 0 (Sl a81 r78 c82) r78, Ch.ro 0 (Sl a26 r20.1.2 c27) r20.1.2, Ch.ro 0 (Sl a23 r20.1.1 c24) r20.1.1, Ch.ro n0 (Sl a9 r2.2.1.2.2.1 c10) r2.2.1.2.2.1, Ch.ro n0 (Sl a26 r20.1.2 c27) r20.1.2, Ch.ro n0 (Sl a23 r20.1.1 c24) r20.1.1, Ch.bx n0 b12 0 [(Sl a5 r2.1.1 c6), (Sl a7 r2.1.2 c8)] [] [], Ch.bx n0 b14 0 [(I r2.2.1.1), (I r2.2.1.2.1), (Sl a9 r2.2.1.2.2.1 c10), (I r2.2.1.2.2.2)] [] [], Ch.bx n0 b29 0 [(Sl a23 r20.1.1 c24), (Sl a26 r20.1.2 c27)] [] [], Ch.own n0 n0 (Sl a37 r34.1.1 c38) r34.1.1, Ch.own n0 n0 (Sl a39 r34.1.2 c40) r34.1.2, Ch.bx n0 b42 0 [(Sl a37 r34.1.1 c38), (Sl a39 r34.1.2 c40)] [] []] ∧ Md (fun i => (fun i => (cov []) i ∨ (fun i => (cov [Ch.ro 0 (Sl a23 r20.1.1 c24) r20.1.1, Ch.ro 0 (Sl a26 r20.1.2 c27) r20.1.2]) i ∨ (fun b => blk (Sl a99 r96 c100) = some b) i) i) i ∨ (fun i => (cov [Ch.ro 0 (Sl a5 r2.1.1 c6) r2.1.1, Ch.ro 0 (Sl a7 r2.1.2 c8) r2.1.2]) i ∨ (fun b => blk (Sl a105 r102 c106) = some b) i) i) σ93 σ114 from hJ)
         clear hJ Hs
         rw [fr_lookL (L := [(6, (pt b29 0)), (82, (B (r84.2 == (r2.2.1.1 == 1)))), (85, (B (!r84.2))), (86, undef), (88, undef)]) ⟨e6, e82, e85, e86, e88, trivial⟩]
         clear hoff hrel e6 e82 e85 e86 e88
         refine st_skip (congrArg some hb113) (st_g (v := (B true)) (congrArg some hb112) (rv_pick_t (congrArg B hb113) rfl) (st (v := (B true)) (rv_pick_t (congrArg B hb112) rfl) (sm (B true) rfl ?_)))
         have hc115 := H.cells 18 rfl
         refine st_g (v := (.agg #[(Sl a23 r20.1.1 c24), (Sl a26 r20.1.2 c27)])) rfl (rv_load (cs := [(Sl a23 r20.1.1 c24), (Sl a26 r20.1.2 c27)]) Try.underlying26 rfl ti26 rfl rfl hc115) ?_
         replace H := H.roLow 15 0 rfl (Nat.zero_le _)
         replace H := H.roLow 15 0 rfl (Nat.zero_le _)
         revert h; refine br fun r116 hx117 h => ?_
         have hc118 := c_impl_ValidHistory (Cd := a23) (Ce := c24) (Cf := a26) (Cg := c27) hx117
         refine st_call (cx_call hc118 (ent_f hc118.fn rfl) hn0 (H.sel' [1, 0, 0, 1, 2, 3, 4, 5, 6, 7, 8, 9, 10, 11, 12, 13, 14, 15, 16, 17, 18, 19, 20, 21, 22, 23] rfl rfl : Hp S0 σ0 _ ([_, _] ++ _))) (wanted_yes rfl (by exact rfl)) ?_
         rintro _ σ119 ⟨_, ⟨rfl, rfl⟩, H, -⟩
         replace H : Hp _ _ _ [_, _, _, _, _, _, _, _, _, _, _, _, _, _, _, _, _, _, _, _, _, _, _, _] := H
         replace H : Hp S0 σ0 σ119 [] := H.sel' [] rfl rfl
         refine st (v := (B r116)) (rv_pick_t rfl rfl) (sa (B r116) rfl (w_end (q_then (c_ret ?_))))
         obtain rfl := sj h
         exact fin_ret (v := (B r116)) (results_ok Try.results6 (res_tmp (v := (B r116)) rfl res_nil) rfl) ⟨rfl, rfl⟩ (H.sel' [] rfl rfl)
       ·replace h := bif_f hb113 h
        have hc120 := H.cells 6 rfl
        have hc121 := H.part (us := [(I r2.2.1.2.1), (Sl a9 r2.2.1.2.2.1 c10), (I r2.2.1.2.2.2)]) (o' := 1) 15 1 3 rfl rfl rfl rfl
        have Hs := H
        refine rg2 (σ := σ93) (Nm := (Option Addr) × (Nat) × (Option Addr) × (Nat)) 23 [3, 7, 8] [[false, false, false], [true, false, false], [true, true, false], [true, true, true]] [[(0, 0)], [(0, 0)], [(0, 0)], [(0, 1)], [(0, 0), (1, 1)], [(0, 0), (1, 1)], [(0, 0), (1, 1)], [(1, 2)], [(2, 3)], [(3, 3)], [(3, 3)], [(3, 3)], [(3, 3)], [(3, 3)], [(3, 3)], [(3, 3)], [(3, 3)], [(3, 3)], [(3, 3)], [(3, 3)], [(3, 3)], [(3, 3)], [(3, 3)]] 3 [fun ((a99, c100, a105, c106) : (Option Addr) × (Nat) × (Option Addr) × (Nat)) => fun σm => Hp S0 σ0 σm [Ch.ro 0 (Sl a7 r2.1.2 c8) r2.1.2, Ch.ro 0 (Sl a5 r2.1.1 c6) r2.1.1, Ch.ro 0 (Sl a26 r20.1.2 c27) r20.1.2, Ch.ro 0 (Sl a23 r20.1.1 c24) r20.1.1, Ch.ro n0 (Sl a7 r2.1.2 c8) r2.1.2, Ch.ro n0 (Sl a5 r2.1.1 c6) r2.1.1, Ch.bx n0 b89 0 [(I r84.1.1), (Sl a87 r84.1.2.1 c88), (I r84.1.2.2)] [] [], Ch.own n0 n0 (Sl a87 r84.1.2.1 c88) r84.1.2.1, Ch.ro 0 (Sl a81 r78 c82) r78, Ch.ro 0 (Sl a26 r20.1.2 c27) r20.1.2, Ch.ro 0 (Sl a23 r20.1.1 c24) r20.1.1, Ch.ro n0 (Sl a9 r2.2.1.2.2.1 c10) r2.2.1.2.2.1, Ch.ro n0 (Sl a26 r20.1.2 c27) r20.1.2, Ch.ro n0 (Sl a23 r20.1.1 c24) r20.1.1, Ch.bx n0 b12 0 [(Sl a5 r2.1.1 c6), (Sl a7 r2.1.2 c8)] [] [], Ch.bx n0 b14 0 [(I r2.2.1.1), (I r2.2.1.2.1), (Sl a9 r2.2.1.2.2.1 c10), (I r2.2.1.2.2.2)] [] [], Ch.bx n0 b29 0 [(Sl a23 r20.1.1 c24), (Sl a26 r20.1.2 c27)] [] [], Ch.own n0 n0 (Sl a37 r34.1.1 c38) r34.1.1, Ch.own n0 n0 (Sl a39 r34.1.2 c40) r34.1.2, Ch.bx n0 b42 0 [(Sl a37 r34.1.1 c38), (Sl a39 r34.1.2 c40)] [] []] ∧ Md (cov []) σ93 σm, fun ((a99, c100, a105, c106) : (Option Addr) × (Nat) × (Option Addr) × (Nat)) => fun σm => Hp S0 σ0 σm [Ch.ro 0 (Sl a99 r96 c100) r96, Ch.ro 0 (Sl a7 r2.1.2 c8) r2.1.2, Ch.ro 0 (Sl a5 r2.1.1 c6) r2.1.1, Ch.ro 0 (Sl a26 r20.1.2 c27) r20.1.2, Ch.ro 0 (Sl a23 r20.1.1 c24) r20.1.1, Ch.ro n0 (Sl a7 r2.1.2 c8) r2.1.2, Ch.ro n0 (Sl a5 r2.1.1 c6) r2.1.1, Ch.bx n0 b89 0 [(I r84.1.1), (Sl a87 r84.1.2.1 c88), (I r84.1.2.2)] [] [], Ch.own n0 n0 (Sl a87 r84.1.2.1 c88) r84.1.2.1, Ch.ro 0 (Sl a81 r78 c82) r78, Ch.ro 0 (Sl a26 r20.1.2 c27) r20.1.2, Ch.ro 0 (Sl a23 r20.1.1 c24) r20.1.1, Ch.ro n0 (Sl a9 r2.2.1.2.2.1 c10) r2.2.1.2.2.1, Ch.ro n0 (Sl a26 r20.1.2 c27) r20.1.2, Ch.ro n0 (Sl a23 r20.1.1 c24) r20.1.1, Ch.bx n0 b12 0 [(Sl a5 r2.1.1 c6), (Sl a7 r2.1.2 c8)] [] [], Ch.bx n0 b14 0 [(I r2.2.1.1), (I r2.2.1.2.1), (Sl a9 r2.2.1.2.2.1 c10), (I r2.2.1.2.2.2)] [] [], Ch.bx n0 b29 0 [(Sl a23 r20.1.1 c24), (Sl a26 r20.1.2 c27)] [] [], Ch.own n0 n0 (Sl a37 r34.1.1 c38) r34.1.1, Ch.own n0 n0 (Sl a39 r34.1.2 c40) r34.1.2, Ch.bx n0 b42 0 [(Sl a37 r34.1.1 c38), (Sl a39 r34.1.2 c40)] [] []] ∧ Md (fun i => (cov []) i ∨ (fun i => (cov [Ch.ro 0 (Sl a23 r20.1.1 c24) r20.1.1, Ch.ro 0 (Sl a26 r20.1.2 c27) r20.1.2]) i ∨ (fun b => blk (Sl a99 r96 c100) = some b) i) i) σ93 σm, fun ((a99, c100, a105, c106) : (Option Addr) × (Nat) × (Option Addr) × (Nat)) => fun σm => Hp S0 σ0 σm [Ch.ro 0 (Sl a105 r102 c106) r102, Ch.ro 0 (Sl a99 r96 c100) r96, Ch.ro 0 (Sl a7 r2.1.2 c8) r2.1.2, Ch.ro 0 (Sl a5 r2.1.1 c6) r2.1.1, Ch.ro 0 (Sl a26 r20.1.2 c27) r20.1.2, Ch.ro 0 (Sl a23 r20.1.1 c24) r20.1.1, Ch.ro n0 (Sl a7 r2.1.2 c8) r2.1.2, Ch.ro n0 (Sl a5 r2.1.1 c6) r2.1.1, Ch.bx n0 b89 0 [(I r84.1.1), (Sl a87 r84.1.2.1 c88), (I r84.1.2.2)] [] [], Ch.own n0 n0 (Sl a87 r84.1.2.1 c88) r84.1.2.1, Ch.ro 0 (Sl a81 r78 c82) r78, Ch.ro 0 (Sl a26 r20.1.2 c27) r20.1.2, Ch.ro 0 (Sl a23 r20.1.1 c24) r20.1.1, Ch.ro n0 (Sl a9 r2.2.1.2.2.1 c10) r2.2.1.2.2.1, Ch.ro n0 (Sl a26 r20.1.2 c27) r20.1.2, Ch.ro n0 (Sl a23 r20.1.1 c24) r20.1.1, Ch.bx n0 b12 0 [(Sl a5 r2.1.1 c6), (Sl a7 r2.1.2 c8)] [] [], Ch.bx n0 b14 0 [(I r2.2.1.1), (I r2.2.1.2.1), (Sl a9 r2.2.1.2.2.1 c10), (I r2.2.1.2.2.2)] [] [], Ch.bx n0 b29 0 [(Sl a23 r20.1.1 c24), (Sl a26 r20.1.2 c27)] [] [], Ch.own n0 n0 (Sl a37 r34.1.1 c38) r34.1.1, Ch.own n0 n0 (Sl a39 r34.1.2 c40) r34.1.2, Ch.bx n0 b42 0 [(Sl a37 r34.1.1 c38), (Sl a39 r34.1.2 c40)] [] []] ∧ Md (fun i => (fun i => (cov []) i ∨ (fun i => (cov [Ch.ro 0 (Sl a23 r20.1.1 c24) r20.1.1, Ch.ro 0 (Sl a26 r20.1.2 c27) r20.1.2]) i ∨ (fun b => blk (Sl a99 r96 c100) = some b) i) i) i ∨ (fun i => (cov [Ch.ro 0 (Sl a5 r2.1.1 c6) r2.1.1, Ch.ro 0 (Sl a7 r2.1.2 c8) r2.1.2]) i ∨ (fun b => blk (Sl a105 r102 c106) = some b) i) i) σ93 σm, fun ((a99, c100, a105, c106) : (Option Addr) × (Nat) × (Option Addr) × (Nat)) => fun σm => Hp S0 σ0 σm [Ch.ro 0 (Sl a105 r102 c106) r102, Ch.ro 0 (Sl a99 r96 c100) r96, Ch.ro 0 (Sl a7 r2.1.2 c8) r2.1.2, Ch.ro 0 (Sl a5 r2.1.1 c6) r2.1.1, Ch.ro 0 (Sl a26 r20.1.2 c27) r20.1.2, Ch.ro 0 (Sl a23 r20.1.1 c24) r20.1.1, Ch.ro n0 (Sl a7 r2.1.2 c8) r2.1.2, Ch.ro n0 (Sl a5 r2.1.1 c6) r2.1.1, Ch.bx n0 b89 0 [(I r84.1.1), (Sl a87 r84.1.2.1 c88), (I r84.1.2.2)] [] [], Ch.own n0 n0 (Sl a87 r84.1.2.1 c88) r84.1.2.1, Ch.ro 0 (Sl a81 r78 c82) r78, Ch.ro 0 (Sl a26 r20.1.2 c27) r20.1.2, Ch.ro 0 (Sl a23 r20.1.1 c24) r20.1.1, Ch.ro n0 (Sl a9 r2.2.1.2.2.1 c10) r2.2.1.2.2.1, Ch.ro n0 (Sl a26 r20.1.2 c27) r20.1.2, Ch.ro n0 (Sl a23 r20.1.1 c24) r20.1.1, Ch.bx n0 b12 0 [(Sl a5 r2.1.1 c6), (Sl a7 r2.1.2 c8)] [] [], Ch.bx n0 b14 0 [(I r2.2.1.1), (I r2.2.1.2.1), (Sl a9 r2.2.1.2.2.1 c10), (I r2.2.1.2.2.2)] [] [], Ch.bx n0 b29 0 [(Sl a23 r20.1.1 c24), (Sl a26 r20.1.2 c27)] [] [], Ch.own n0 n0 (Sl a37 r34.1.1 c38) r34.1.1, Ch.own n0 n0 (Sl a39 r34.1.2 c40) r34.1.2, Ch.bx n0 b42 0 [(Sl a37 r34.1.1 c38), (Sl a39 r34.1.2 c40)] [] []] ∧ Md (fun i => (fun i => (cov []) i ∨ (fun i => (cov [Ch.ro 0 (Sl a23 r20.1.1 c24) r20.1.1, Ch.ro 0 (Sl a26 r20.1.2 c27) r20.1.2]) i ∨ (fun b => blk (Sl a99 r96 c100) = some b) i) i) i ∨ (fun i => (cov [Ch.ro 0 (Sl a5 r2.1.1 c6) r2.1.1, Ch.ro 0 (Sl a7 r2.1.2 c8) r2.1.2]) i ∨ (fun b => blk (Sl a105 r102 c106) = some b) i) i) σ93 σm] [fun ((a99, c100, a105, c106) : (Option Addr) × (Nat) × (Option Addr) × (Nat)) => (.agg #[(Sl a23 r20.1.1 c24), (Sl a26 r20.1.2 c27)]), fun ((a99, c100, a105, c106) : (Option Addr) × (Nat) × (Option Addr) × (Nat)) => (I r2.2.2), fun ((a99, c100, a105, c106) : (Option Addr) × (Nat) × (Option Addr) × (Nat)) => (I (w64 (r2.2.2 - 1))), fun ((a99, c100, a105, c106) : (Option Addr) × (Nat) × (Option Addr) × (Nat)) => (Sl a99 r96 c100), fun ((a99, c100, a105, c106) : (Option Addr) × (Nat) × (Option Addr) × (Nat)) => (.agg #[(Sl a5 r2.1.1 c6), (Sl a7 r2.1.2 c8)]), fun ((a99, c100, a105, c106) : (Option Addr) × (Nat) × (Option Addr) × (Nat)) => (I r2.2.2), fun ((a99, c100, a105, c106) : (Option Addr) × (Nat) × (Option Addr) × (Nat)) => (I (w64 (r2.2.2 - 1))), fun ((a99, c100, a105, c106) : (Option Addr) × (Nat) × (Option Addr) × (Nat)) => (Sl a105 r102 c106), fun ((a99, c100, a105, c106) : (Option Addr) × (Nat) × (Option Addr) × (Nat)) => (B r107), fun ((a99, c100, a105, c106) : (Option Addr) × (Nat) × (Option Addr) × (Nat)) => (B r107), fun ((a99, c100, a105, c106) : (Option Addr) × (Nat) × (Option Addr) × (Nat)) => (B r84.2), fun ((a99, c100, a105, c106) : (Option Addr) × (Nat) × (Option Addr) × (Nat)) => (pt b14 0), fun ((a99, c100, a105, c106) : (Option Addr) × (Nat) × (Option Addr) × (Nat)) => (I r2.2.1.1), fun ((a99, c100, a105, c106) : (Option Addr) × (Nat) × (Option Addr) × (Nat)) => (B (r2.2.1.1 == 1)), fun ((a99, c100, a105, c106) : (Option Addr) × (Nat) × (Option Addr) × (Nat)) => (B (r84.2 == (r2.2.1.1 == 1))), fun ((a99, c100, a105, c106) : (Option Addr) × (Nat) × (Option Addr) × (Nat)) => (B (r84.2 == (r2.2.1.1 == 1))), fun ((a99, c100, a105, c106) : (Option Addr) × (Nat) × (Option Addr) × (Nat)) => (B (r84.2 == (r2.2.1.1 == 1))), fun ((a99, c100, a105, c106) : (Option Addr) × (Nat) × (Option Addr) × (Nat)) => (B r84.2), fun ((a99, c100, a105, c106) : (Option Addr) × (Nat) × (Option Addr) × (Nat)) => (B (!r84.2)), fun ((a99, c100, a105, c106) : (Option Addr) × (Nat) × (Option Addr) × (Nat)) => (B (!r84.2)), fun ((a99, c100, a105, c106) : (Option Addr) × (Nat) × (Option Addr) × (Nat)) => (.agg #[(I r84.1.1), (Sl a87 r84.1.2.1 c88), (I r84.1.2.2)]), fun ((a99, c100, a105, c106) : (Option Addr) × (Nat) × (Option Addr) × (Nat)) => (pt b14 1), fun ((a99, c100, a105, c106) : (Option Addr) × (Nat) × (Option Addr) × (Nat)) => (.agg #[(I r2.2.1.2.1), (Sl a9 r2.2.1.2.2.1 c10), (I r2.2.1.2.2.2)])] (none, 0, none, 0) (by kernel_rfl) (by kernel_rfl) ?_ ?_ ?_
        ·intro σm m0
         exact ⟨H.grow (m0.mono fun _ h => h.elim), m0⟩
        ·refine all_cons (by
           refine ⟨?_, ?_⟩
           ·rintro ⟨a99, c100, a105, c106⟩ ρ σm hJ hoff hdep
            have e6 := look_off (N := 96) (hoff 6 rfl) rfl
            obtain ⟨H, m⟩ := id hJ
            have hc95 := H.cells 16 rfl
            exact dp_v (v := (.agg #[(Sl a23 r20.1.1 c24), (Sl a26 r20.1.2 c27)])) wn (rv_load (cs := [(Sl a23 r20.1.1 c24), (Sl a26 r20.1.2 c27)]) Try.underlying26 rfl ti26 e6 rfl hc95) rfl hJ
           trivial) ?_
         refine ac rfl (by
           intro k; rintro ⟨a99, c100, a105, c106⟩ ρ σm hJ hoff hdep
           have e5 := look_off (N := 96) (hoff 5 rfl) rfl
           exact dp_v (v := (I r2.2.2)) wn (rv_move e5) rfl hJ) ?_
         refine ac rfl (by
           intro k; rintro ⟨a99, c100, a105, c106⟩ ρ σm hJ hoff hdep
           have e67 := hdep 1 rfl rfl 67 rfl
           exact dp_v (v := (I (w64 (r2.2.2 - 1)))) wn (rv_sub (a := r2.2.2) (b := 1) e67 rfl) rfl hJ) ?_
         refine all_cons (by
           refine ⟨?_, ?_⟩
           ·rintro ⟨a99, c100, a105, c106⟩ ρ σm hJ hoff hdep
            have e66 : look 96 ρ 66 = (.agg #[(Sl a23 r20.1.1 c24), (Sl a26 r20.1.2 c27)]) := hdep 0 rfl rfl 66 rfl
            have e68 : look 96 ρ 68 = (I (w64 (r2.2.2 - 1))) := hdep 2 rfl rfl 68 rfl
            obtain ⟨H, m⟩ := id hJ
            refine dp_cx wn (cx_call hc98 (ent_f hc98.fn (by show [look 96 ρ 66, look 96 ρ 68] = _; rw [e66, e68])) hn0 (H.sel' [3, 2, 0, 1, 2, 3, 4, 5, 6, 7, 8, 9, 10, 11, 12, 13, 14, 15, 16, 17, 18, 19] rfl rfl : Hp S0 σ0 _ ([_, _] ++ _))) ?_
            rintro _ σq ⟨_, ⟨a99x, c100x, rfl, rfl⟩, H2, m2⟩
            obtain ⟨σr0, hwr0, H2, mr0⟩ := H2.pub 0 rfl (Nat.le_refl _)
            exact ⟨_, (a99x, c100x, a105, c106), hwr0, rfl, ⟨H2.sel' [0, 1, 2, 3, 4, 5, 6, 7, 8, 9, 10, 11, 12, 13, 14, 15, 16, 17, 18, 19, 20] rfl rfl, m.comp (m2.comp mr0)⟩, stab [0, 1, 2, 4, 5, 6] (by kernel_rfl) ⟨rfl, rfl, rfl, rfl, rfl, rfl, trivial⟩⟩
           trivial) ?_
         refine all_cons (by
           refine ⟨?_, ?_⟩
           ·rintro ⟨a99, c100, a105, c106⟩ ρ σm hJ hoff hdep
            have e3 := look_off (N := 96) (hoff 3 rfl) rfl
            obtain ⟨H, m⟩ := id hJ
            have hc101 := H.cells 14 rfl
            exact dp_v (v := (.agg #[(Sl a5 r2.1.1 c6), (Sl a7 r2.1.2 c8)])) wn (rv_load (cs := [(Sl a5 r2.1.1 c6), (Sl a7 r2.1.2 c8)]) Try.underlying26 rfl ti26 e3 rfl hc101) rfl hJ
           refine ⟨?_, ?_⟩
           ·rintro ⟨a99, c100, a105, c106⟩ ρ σm hJ hoff hdep
            have e3 := look_off (N := 96) (hoff 3 rfl) rfl
            obtain ⟨H, m⟩ := id hJ
            have hc101 := H.cells 15 rfl
            exact dp_v (v := (.agg #[(Sl a5 r2.1.1 c6), (Sl a7 r2.1.2 c8)])) wn (rv_load (cs := [(Sl a5 r2.1.1 c6), (Sl a7 r2.1.2 c8)]) Try.underlying26 rfl ti26 e3 rfl hc101) rfl hJ
           trivial) ?_
         refine ac rfl (by
           intro k; rintro ⟨a99, c100, a105, c106⟩ ρ σm hJ hoff hdep
           have e5 := look_off (N := 96) (hoff 5 rfl) rfl
           exact dp_v (v := (I r2.2.2)) wn (rv_move e5) rfl hJ) ?_
         refine ac rfl (by
           intro k; rintro ⟨a99, c100, a105, c106⟩ ρ σm hJ hoff hdep
           have e71 := hdep 5 rfl rfl 71 rfl
           exact dp_v (v := (I (w64 (r2.2.2 - 1)))) wn (rv_sub (a := r2.2.2) (b := 1) e71 rfl) rfl hJ) ?_
         refine all_cons (by
           refine ⟨?_, ?_⟩
           ·rintro ⟨a99, c100, a105, c106⟩ ρ σm hJ hoff hdep
            have e70 : look 96 ρ 70 = (.agg #[(Sl a5 r2.1.1 c6), (Sl a7 r2.1.2 c8)]) := hdep 4 rfl rfl 70 rfl
            have e72 : look 96 ρ 72 = (I (w64 (r2.2.2 - 1))) := hdep 6 rfl rfl 72 rfl
            obtain ⟨H, m⟩ := id hJ
            refine dp_cx wn (cx_call hc104 (ent_f hc104.fn (by show [look 96 ρ 70, look 96 ρ 72] = _; rw [e70, e72])) hn0 (H.sel' [2, 1, 0, 1, 2, 3, 4, 5, 6, 7, 8, 9, 10, 11, 12, 13, 14, 15, 16, 17, 18, 19, 20] rfl rfl : Hp S0 σ0 _ ([_, _] ++ _))) ?_
            rintro _ σq ⟨_, ⟨a105x, c106x, rfl, rfl⟩, H2, m2⟩
            obtain ⟨σr0, hwr0, H2, mr0⟩ := H2.pub 0 rfl (Nat.le_refl _)
            exact ⟨_, (a99, c100, a105x, c106x), hwr0, rfl, ⟨H2.sel' [0, 1, 2, 3, 4, 5, 6, 7, 8, 9, 10, 11, 12, 13, 14, 15, 16, 17, 18, 19, 20, 21] rfl rfl, m.comp (m2.comp mr0)⟩, stab [0, 1, 2, 3, 4, 5, 6] (by kernel_rfl) ⟨rfl, rfl, rfl, rfl, rfl, rfl, rfl, trivial⟩⟩
           trivial) ?_
         refine all_cons (by
           refine ⟨?_, ?_⟩
           ·rintro ⟨a99, c100, a105, c106⟩ ρ σm hJ hoff hdep
            have e69 : look 96 ρ 69 = (Sl a99 r96 c100) := hdep 3 rfl rfl 69 rfl
            have e73 : look 96 ρ 73 = (Sl a105 r102 c106) := hdep 7 rfl rfl 73 rfl
            obtain ⟨H, m⟩ := id hJ
            refine dp_cx wn (cx_call (hc109 a99 c100 a105 c106) (ent_f (hc109 a99 c100 a105 c106).fn (by show [look 96 ρ 69, look 96 ρ 73] = _; rw [e69, e73])) hn0 (H.sel' [1, 0, 0, 1, 2, 3, 4, 5, 6, 7, 8, 9, 10, 11, 12, 13, 14, 15, 16, 17, 18, 19, 20, 21] rfl rfl : Hp S0 σ0 _ ([_, _] ++ _))) ?_
            rintro _ σq ⟨_, ⟨rfl, rfl⟩, H2, m2⟩
            exact ⟨_, (a99, c100, a105, c106), rfl, rfl, ⟨H2.sel' [0, 1, 2, 3, 4, 5, 6, 7, 8, 9, 10, 11, 12, 13, 14, 15, 16, 17, 18, 19, 20, 21] rfl rfl, m.comp0 (m2.mono (fun i h => by simp [cov, Ch.ro] at h))⟩, stab [0, 1, 2, 3, 4, 5, 6, 7] (by kernel_rfl) ⟨rfl, rfl, rfl, rfl, rfl, rfl, rfl, rfl, trivial⟩⟩
           trivial) ?_
         refine ac rfl (by
           intro k; rintro ⟨a99, c100, a105, c106⟩ ρ σm hJ hoff hdep
           have e74 := hdep 8 rfl rfl 74 rfl
           exact dp_v (v := (B r107)) wn (rv_move e74) rfl hJ) ?_
         refine ac rfl (by
           intro k; rintro ⟨a99, c100, a105, c106⟩ ρ σm hJ hoff hdep
           have e11 := look_off (N := 96) (hoff 11 rfl) rfl
           have e75 := hdep 9 rfl rfl 75 rfl
           exact dp_v (v := (B r84.2)) (wanted_yes rfl (yv_of rfl (e75.trans (congrArg B hb110)))) (rv_move e11) rfl hJ) ?_
         refine ac rfl (by
           intro k; rintro ⟨a99, c100, a105, c106⟩ ρ σm hJ hoff hdep
           have e4 := look_off (N := 96) (hoff 4 rfl) rfl
           have e75 := hdep 9 rfl rfl 75 rfl
           exact dp_v (v := (pt b14 0)) (wanted_yes rfl (yv_of rfl (e75.trans (congrArg B hb110)))) (rv_fieldAddr (off := 0) (ft := 3) Try.underlying43 rfl ti3 rfl e4) rfl hJ) ?_
         refine all_cons (by
           refine ⟨?_, ?_⟩
           ·rintro ⟨a99, c100, a105, c106⟩ ρ σm hJ hoff hdep
            have e77 := hdep 11 rfl rfl 77 rfl
            have e75 := hdep 9 rfl rfl 75 rfl
            obtain ⟨H, m⟩ := id hJ
            have hc111 := H.cell (u := (I r2.2.1.1)) (o' := 0) 17 0 rfl rfl rfl
            exact dp_v (v := (I r2.2.1.1)) (wanted_yes rfl (yv_of rfl (e75.trans (congrArg B hb110)))) (rv_load1 Try.underlying3 rfl e77 hc111) rfl hJ
           trivial) ?_
         refine ac rfl (by
           intro k; rintro ⟨a99, c100, a105, c106⟩ ρ σm hJ hoff hdep
           have e78 := hdep 12 rfl rfl 78 rfl
           have e75 := hdep 9 rfl rfl 75 rfl
           exact dp_v (v := (B (r2.2.1.1 == 1))) (wanted_yes rfl (yv_of rfl (e75.trans (congrArg B hb110)))) (rv_eql (a := r2.2.1.1) (b := 1) e78 rfl) rfl hJ) ?_
         refine ac rfl (by
           intro k; rintro ⟨a99, c100, a105, c106⟩ ρ σm hJ hoff hdep
           have e76 := hdep 10 rfl rfl 76 rfl
           have e79 := hdep 13 rfl rfl 79 rfl
           have e75 := hdep 9 rfl rfl 75 rfl
           exact dp_v (v := (B (r84.2 == (r2.2.1.1 == 1)))) (wanted_yes rfl (yv_of rfl (e75.trans (congrArg B hb110)))) (rv_beql Try.underlying4 e76 e79) rfl hJ) ?_
         refine ac rfl (by
           intro k; rintro ⟨a99, c100, a105, c106⟩ ρ σm hJ hoff hdep
           have e75 := hdep 9 rfl rfl 75 rfl
           have e80 := hdep 14 rfl rfl 80 rfl
           exact dp_v (v := (B (r84.2 == (r2.2.1.1 == 1)))) wn (rv_pick_t (e75.trans (congrArg B hb110)) e80) rfl hJ) ?_
         refine ac rfl (by
           intro k; rintro ⟨a99, c100, a105, c106⟩ ρ σm hJ hoff hdep
           have e81 := hdep 15 rfl rfl 81 rfl
           exact dp_v (v := (B (r84.2 == (r2.2.1.1 == 1)))) wn (rv_move e81) rfl hJ) ?_
         refine ac rfl (by
           intro k; rintro ⟨a99, c100, a105, c106⟩ ρ σm hJ hoff hdep
           have e11 := look_off (N := 96) (hoff 11 rfl) rfl
           have e82 := hdep 16 rfl rfl 82 rfl
           exact dp_v (v := (B r84.2)) (wanted_yes rfl (yv_of rfl (e82.trans (congrArg B hb112)))) (rv_move e11) rfl hJ) ?_
         refine ac rfl (by
           intro k; rintro ⟨a99, c100, a105, c106⟩ ρ σm hJ hoff hdep
           have e83 := hdep 17 rfl rfl 83 rfl
           have e82 := hdep 16 rfl rfl 82 rfl
           exact dp_v (v := (B (!r84.2))) (wanted_yes rfl (yv_of rfl (e82.trans (congrArg B hb112)))) (rv_not e83) rfl hJ) ?_
         refine ac rfl (by
           intro k; rintro ⟨a99, c100, a105, c106⟩ ρ σm hJ hoff hdep
           have e84 := hdep 18 rfl rfl 84 rfl
           have e82 := hdep 16 rfl rfl 82 rfl
           exact dp_v (v := (B (!r84.2))) (wanted_yes rfl (yv_of rfl (e82.trans (congrArg B hb112)))) (rv_move e84) rfl hJ) ?_
         refine all_cons (by
           refine ⟨?_, ?_⟩
           ·rintro ⟨a99, c100, a105, c106⟩ ρ σm hJ hoff hdep
            have e10 := look_off (N := 96) (hoff 10 rfl) rfl
            have e85 := hdep 19 rfl rfl 85 rfl
            obtain ⟨H, m⟩ := id hJ
            have hc120 := H.cells 8 rfl
            exact dp_v (v := (.agg #[(I r84.1.1), (Sl a87 r84.1.2.1 c88), (I r84.1.2.2)])) (wanted_yes rfl (yv_of rfl (e85.trans (congrArg B hb113)))) (rv_load (cs := [(I r84.1.1), (Sl a87 r84.1.2.1 c88), (I r84.1.2.2)]) Try.underlying41 rfl ti41 e10 rfl hc120) rfl hJ
           trivial) ?_
         refine ac rfl (by
           intro k; rintro ⟨a99, c100, a105, c106⟩ ρ σm hJ hoff hdep
           have e4 := look_off (N := 96) (hoff 4 rfl) rfl
           have e85 := hdep 19 rfl rfl 85 rfl
           exact dp_v (v := (pt b14 1)) (wanted_yes rfl (yv_of rfl (e85.trans (congrArg B hb113)))) (rv_fieldAddr (off := 1) (ft := 41) Try.underlying43 rfl ti41 rfl e4) rfl hJ) ?_
         refine all_cons (by
           refine ⟨?_, ?_⟩
           ·rintro ⟨a99, c100, a105, c106⟩ ρ σm hJ hoff hdep
            have e87 := hdep 21 rfl rfl 87 rfl
            have e85 := hdep 19 rfl rfl 85 rfl
            obtain ⟨H, m⟩ := id hJ
            have hc121 := H.part (us := [(I r2.2.1.2.1), (Sl a9 r2.2.1.2.2.1 c10), (I r2.2.1.2.2.2)]) (o' := 1) 17 1 3 rfl rfl rfl rfl
            exact dp_v (v := (.agg #[(I r2.2.1.2.1), (Sl a9 r2.2.1.2.2.1 c10), (I r2.2.1.2.2.2)])) (wanted_yes rfl (yv_of rfl (e85.trans (congrArg B hb113)))) (rv_load (cs := [(I r2.2.1.2.1), (Sl a9 r2.2.1.2.2.1 c10), (I r2.2.1.2.2.2)]) Try.underlying41 rfl ti41 e87 rfl hc121) rfl hJ
           trivial) ?_
         exact all_nil
        ·rintro ⟨a99, c100, a105, c106⟩ ρ σ122 hJ hoff hrel
         have e6 := look_off (N := 96) (hoff 6 rfl) rfl
         have e82 := hrel 16 rfl 82 rfl
         have e85 := hrel 19 rfl 85 rfl
         have e86 := hrel 20 rfl 86 rfl
         have e88 := hrel 22 rfl 88 rfl
         obtain ⟨H, -⟩ := (show Hp S0 σ0 σ122 [Ch.ro 0 (Sl a105 r102 c106) r102, Ch.ro 0 (Sl a99 r96 c100) r96, Ch.ro 0 (Sl a7 r2.1.2 c8) r2.1.2, Ch.ro 0 (Sl a5 r2.1.1 c6) r2.1.1, Ch.ro 0 (Sl a26 r20.1.2 c27) r20.1.2, Ch.ro 0 (Sl a23 r20.1.1 c24) r20.1.1, Ch.ro n0 (Sl a7 r2.1.2 c8) r2.1.2, Ch.ro n0 (Sl a5 r2.1.1 c6) r2.1.1, Ch.bx n0 b89 0 [(I r84.1.1), (Sl a87 r84.1.2.1 c88), (I r84.1.2.2)] [] [], Ch.own n0 n0 (Sl a87 r84.1.2.1 c88) r84.1.2.1, Ch.ro 0 (Sl a81 r78 c82) r78, Ch.ro 0 (Sl a26 r20.1.2 c27) r20.1.2, Ch.ro 0 (Sl a23 r20.1.1 c24) r20.1.1, Ch.ro n0 (Sl a9 r2.2.1.2.2.1 c10) r2.2.1.2.2.1, Ch.ro n0 (Sl a26 r20.1.2 c27) r20.1.2, Ch.ro n0 (Sl a23 r20.1.1 c24) r20.1.1, Ch.bx n0 b12 0 [(Sl a5 r2.1.1 c6), (Sl a7 r2.1.2 c8)] [] [], Ch.bx n0 b14 0 [(I r2.2.1.1), (I r2.2.1.2.1), (Sl a9 r2.2.1.2.2.1 c10), (I r2.2.1.2.2.2)] [] [], Ch.bx n0 b29 0 [(Sl a23 r20.1.1 c24), (Sl a26 r20.1.2 c27)] [] [], Ch.own n0 n0 (Sl a37 r34.1.1 c38) r34.1.1, Ch.own n0 n0 (Sl a39 r34.1.2 c40) r34.1.2, Ch.bx n0 b42 0 [(Sl a37 r34.1.1 c38), (Sl a39 r34.1.2 c40)] [] []] ∧ Md (fun i => (fun i => (cov []) i ∨ (fun i => (cov [Ch.ro 0 (Sl a23 r20.1.1 c24) r20.1.1, Ch.ro 0 (Sl a26 r20.1.2 c27) r20.1.2]) i ∨ (fun b => blk (Sl a99 r96 c100) = some b) i) i) i ∨ (fun i => (cov [Ch.ro 0 (Sl a5 r2.1.1 c6) r2.1.1, Ch.ro 0 (Sl a7 r2.1.2 c8) r2.1.2]) i ∨ (fun b => blk (Sl a105 r102 c106) = some b) i) i) σ93 σ122 from hJ)
         clear hJ Hs
         rw [fr_lookL (L := [(6, (pt b29 0)), (82, (B (r84.2 == (r2.2.1.1 == 1)))), (85, (B (!r84.2))), (86, (.agg #[(I r84.1.1), (Sl a87 r84.1.2.1 c88), (I r84.1.2.2)])), (88, (.agg #[(I r2.2.1.2.1), (Sl a9 r2.2.1.2.2.1 c10), (I r2.2.1.2.2.2)]))]) ⟨e6, e82, e85, e86, e88, trivial⟩]
         clear hoff hrel e6 e82 e85 e86 e88
         obtain ⟨σ123, hw124, H, -⟩ := H.pub 9 rfl (Nat.le_refl _)
         rw [← hw124]; clear hw124
         replace H := H.roLow 0 0 rfl (Nat.zero_le _)
         replace H := H.roLow 14 0 rfl (Nat.zero_le _)
         revert h; refine br fun r125 hx126 h => ?_
         have hc127 := c_laws_equalItem (Dt := a87) (Du := c88) (Dv := a9) (Dw := c10) hx126
         refine st_call (cx_call hc127 (ent_f hc127.fn rfl) hn0 (H.sel' [1, 0, 0, 1, 2, 3, 4, 5, 6, 7, 8, 9, 10, 11, 12, 13, 14, 15, 16, 17, 18, 19, 20, 21, 22, 23] rfl rfl : Hp S0 σ0 _ ([_, _] ++ _))) (wanted_yes rfl (by exact (congrArg some hb113))) ?_
         rintro _ σ128 ⟨_, ⟨rfl, rfl⟩, H, -⟩
         replace H : Hp _ _ _ [_, _, _, _, _, _, _, _, _, _, _, _, _, _, _, _, _, _, _, _, _, _, _, _] := H
         replace H : Hp S0 σ0 σ128 [Ch.ro n0 (Sl a26 r20.1.2 c27) r20.1.2, Ch.ro n0 (Sl a23 r20.1.1 c24) r20.1.1, Ch.bx n0 b29 0 [(Sl a23 r20.1.1 c24), (Sl a26 r20.1.2 c27)] [] []] := H.sel' [16, 17, 20] rfl rfl
         refine st_g (v := (B r125)) (congrArg some hb112) (rv_pick_f (congrArg B hb113) rfl) (st (v := (B r125)) (rv_pick_t (congrArg B hb112) rfl) (sm (B r125) rfl ?_))
         rcases Bool.eq_false_or_eq_true r125 with hb129 | hb129
         ·replace h := bif_t hb129 h
          have hc130 := H.cells 2 rfl
          refine st_g (v := (.agg #[(Sl a23 r20.1.1 c24), (Sl a26 r20.1.2 c27)])) (congrArg some hb129) (rv_load (cs := [(Sl a23 r20.1.1 c24), (Sl a26 r20.1.2 c27)]) Try.underlying26 rfl ti26 rfl rfl hc130) ?_
          replace H := H.roLow 1 0 rfl (Nat.zero_le _)
          replace H := H.roLow 1 0 rfl (Nat.zero_le _)
          revert h; refine br fun r131 hx132 h => ?_
          have hc133 := c_impl_ValidHistory (Cd := a23) (Ce := c24) (Cf := a26) (Cg := c27) hx132
          refine st_call (cx_call hc133 (ent_f hc133.fn rfl) hn0 (H.sel' [1, 0, 0, 1, 2, 3, 4] rfl rfl : Hp S0 σ0 _ ([_, _] ++ _))) (wanted_yes rfl (by exact (congrArg some hb129))) ?_
          rintro _ σ134 ⟨_, ⟨rfl, rfl⟩, H, -⟩
          replace H : Hp _ _ _ [_, _, _, _, _] := H
          refine st (v := (B r131)) (rv_pick_t (congrArg B hb129) rfl) (sa (B r131) rfl (w_end (q_then (c_ret ?_))))
          obtain rfl := sj h
          exact fin_ret (v := (B r131)) (results_ok Try.results6 (res_tmp (v := (B r131)) rfl res_nil) rfl) ⟨rfl, rfl⟩ (H.sel' [] rfl rfl)
         ·replace h := bif_f hb129 h
          refine st_skip (congrArg some hb129) (st_skip (congrArg some hb129) (st (v := (B false)) (rv_pick_f (congrArg B hb129) rfl) (sa (B false) rfl (w_end (q_then (c_ret ?_))))))
          obtain rfl := sj h
          exact fin_ret (v := (B false)) (results_ok Try.results6 (res_tmp (v := (B false)) rfl res_nil) rfl) ⟨rfl, rfl⟩ (H.sel' [] rfl rfl)
      ·replace h := bif_f hb112 h
       have Hs := H
       refine rg2 (σ := σ93) (Nm := (Option Addr) × (Nat) × (Option Addr) × (Nat)) 23 [3, 7, 8] [[false, false, false], [true, false, false], [true, true, false], [true, true, true]] [[(0, 0)], [(0, 0)], [(0, 0)], [(0, 1)], [(0, 0), (1, 1)], [(0, 0), (1, 1)], [(0, 0), (1, 1)], [(1, 2)], [(2, 3)], [(3, 3)], [(3, 3)], [(3, 3)], [(3, 3)], [(3, 3)], [(3, 3)], [(3, 3)], [(3, 3)], [(3, 3)], [(3, 3)], [(3, 3)], [(3, 3)], [(3, 3)], [(3, 3)]] 3 [fun ((a99, c100, a105, c106) : (Option Addr) × (Nat) × (Option Addr) × (Nat)) => fun σm => Hp S0 σ0 σm [Ch.ro 0 (Sl a7 r2.1.2 c8) r2.1.2, Ch.ro 0 (Sl a5 r2.1.1 c6) r2.1.1, Ch.ro 0 (Sl a26 r20.1.2 c27) r20.1.2, Ch.ro 0 (Sl a23 r20.1.1 c24) r20.1.1, Ch.ro n0 (Sl a7 r2.1.2 c8) r2.1.2, Ch.ro n0 (Sl a5 r2.1.1 c6) r2.1.1, Ch.bx n0 b89 0 [(I r84.1.1), (Sl a87 r84.1.2.1 c88), (I r84.1.2.2)] [] [], Ch.own n0 n0 (Sl a87 r84.1.2.1 c88) r84.1.2.1, Ch.ro 0 (Sl a81 r78 c82) r78, Ch.ro 0 (Sl a26 r20.1.2 c27) r20.1.2, Ch.ro 0 (Sl a23 r20.1.1 c24) r20.1.1, Ch.ro n0 (Sl a9 r2.2.1.2.2.1 c10) r2.2.1.2.2.1, Ch.ro n0 (Sl a26 r20.1.2 c27) r20.1.2, Ch.ro n0 (Sl a23 r20.1.1 c24) r20.1.1, Ch.bx n0 b12 0 [(Sl a5 r2.1.1 c6), (Sl a7 r2.1.2 c8)] [] [], Ch.bx n0 b14 0 [(I r2.2.1.1), (I r2.2.1.2.1), (Sl a9 r2.2.1.2.2.1 c10), (I r2.2.1.2.2.2)] [] [], Ch.bx n0 b29 0 [(Sl a23 r20.1.1 c24), (Sl a26 r20.1.2 c27)] [] [], Ch.own n0 n0 (Sl a37 r34.1.1 c38) r34.1.1, Ch.own n0 n0 (Sl a39 r34.1.2 c40) r34.1.2, Ch.bx n0 b42 0 [(Sl a37 r34.1.1 c38), (Sl a39 r34.1.2 c40)] [] []] ∧ Md (cov []) σ93 σm, fun ((a99, c100, a105, c106) : (Option Addr) × (Nat) × (Option Addr) × (Nat)) => fun σm => Hp S0 σ0 σm [Ch.ro 0 (Sl a99 r96 c100) r96, Ch.ro 0 (Sl a7 r2.1.2 c8) r2.1.2, Ch.ro 0 (Sl a5 r2.1.1 c6) r2.1.1, Ch.ro 0 (Sl a26 r20.1.2 c27) r20.1.2, Ch.ro 0 (Sl a23 r20.1.1 c24) r20.1.1, Ch.ro n0 (Sl a7 r2.1.2 c8) r2.1.2, Ch.ro n0 (Sl a5 r2.1.1 c6) r2.1.1, Ch.bx n0 b89 0 [(I r84.1.1), (Sl a87 r84.1.2.1 c88), (I r84.1.2.2)] [] [], Ch.own n0 n0 (Sl a87 r84.1.2.1 c88) r84.1.2.1, Ch.ro 0 (Sl a81 r78 c82) r78, Ch.ro 0 (Sl a26 r20.1.2 c27) r20.1.2, Ch.ro 0 (Sl a23 r20.1.1 c24) r20.1.1, Ch.ro n0 (Sl a9 r2.2.1.2.2.1 c10) r2.2.1.2.2.1, Ch.ro n0 (Sl a26 r20.1.2 c27) r20.1.2, Ch.ro n0 (Sl a23 r20.1.1 c24) r20.1.1, Ch.bx n0 b12 0 [(Sl a5 r2.1.1 c6), (Sl a7 r2.1.2 c8)] [] [], Ch.bx n0 b14 0 [(I r2.2.1.1), (I r2.2.1.2.1), (Sl a9 r2.2.1.2.2.1 c10), (I r2.2.1.2.2.2)] [] [], Ch.bx n0 b29 0 [(Sl a23 r20.1.1 c24), (Sl a26 r20.1.2 c27)] [] [], Ch.own n0 n0 (Sl a37 r34.1.1 c38) r34.1.1, Ch.own n0 n0 (Sl a39 r34.1.2 c40) r34.1.2, Ch.bx n0 b42 0 [(Sl a37 r34.1.1 c38), (Sl a39 r34.1.2 c40)] [] []] ∧ Md (fun i => (cov []) i ∨ (fun i => (cov [Ch.ro 0 (Sl a23 r20.1.1 c24) r20.1.1, Ch.ro 0 (Sl a26 r20.1.2 c27) r20.1.2]) i ∨ (fun b => blk (Sl a99 r96 c100) = some b) i) i) σ93 σm, fun ((a99, c100, a105, c106) : (Option Addr) × (Nat) × (Option Addr) × (Nat)) => fun σm => Hp S0 σ0 σm [Ch.ro 0 (Sl a105 r102 c106) r102, Ch.ro 0 (Sl a99 r96 c100) r96, Ch.ro 0 (Sl a7 r2.1.2 c8) r2.1.2, Ch.ro 0 (Sl a5 r2.1.1 c6) r2.1.1, Ch.ro 0 (Sl a26 r20.1.2 c27) r20.1.2, Ch.ro 0 (Sl a23 r20.1.1 c24) r20.1.1, Ch.ro n0 (Sl a7 r2.1.2 c8) r2.1.2, Ch.ro n0 (Sl a5 r2.1.1 c6) r2.1.1, Ch.bx n0 b89 0 [(I r84.1.1), (Sl a87 r84.1.2.1 c88), (I r84.1.2.2)] [] [], Ch.own n0 n0 (Sl a87 r84.1.2.1 c88) r84.1.2.1, Ch.ro 0 (Sl a81 r78 c82) r78, Ch.ro 0 (Sl a26 r20.1.2 c27) r20.1.2, Ch.ro 0 (Sl a23 r20.1.1 c24) r20.1.1, Ch.ro n0 (Sl a9 r2.2.1.2.2.1 c10) r2.2.1.2.2.1, Ch.ro n0 (Sl a26 r20.1.2 c27) r20.1.2, Ch.ro n0 (Sl a23 r20.1.1 c24) r20.1.1, Ch.bx n0 b12 0 [(Sl a5 r2.1.1 c6), (Sl a7 r2.1.2 c8)] [] [], Ch.bx n0 b14 0 [(I r2.2.1.1), (I r2.2.1.2.1), (Sl a9 r2.2.1.2.2.1 c10), (I r2.2.1.2.2.2)] [] [], Ch.bx n0 b29 0 [(Sl a23 r20.1.1 c24), (Sl a26 r20.1.2 c27)] [] [], Ch.own n0 n0 (Sl a37 r34.1.1 c38) r34.1.1, Ch.own n0 n0 (Sl a39 r34.1.2 c40) r34.1.2, Ch.bx n0 b42 0 [(Sl a37 r34.1.1 c38), (Sl a39 r34.1.2 c40)] [] []] ∧ Md (fun i => (fun i => (cov []) i ∨ (fun i => (cov [Ch.ro 0 (Sl a23 r20.1.1 c24) r20.1.1, Ch.ro 0 (Sl a26 r20.1.2 c27) r20.1.2]) i ∨ (fun b => blk (Sl a99 r96 c100) = some b) i) i) i ∨ (fun i => (cov [Ch.ro 0 (Sl a5 r2.1.1 c6) r2.1.1, Ch.ro 0 (Sl a7 r2.1.2 c8) r2.1.2]) i ∨ (fun b => blk (Sl a105 r102 c106) = some b) i) i) σ93 σm, fun ((a99, c100, a105, c106) : (Option Addr) × (Nat) × (Option Addr) × (Nat)) => fun σm => Hp S0 σ0 σm [Ch.ro 0 (Sl a105 r102 c106) r102, Ch.ro 0 (Sl a99 r96 c100) r96, Ch.ro 0 (Sl a7 r2.1.2 c8) r2.1.2, Ch.ro 0 (Sl a5 r2.1.1 c6) r2.1.1, Ch.ro 0 (Sl a26 r20.1.2 c27) r20.1.2, Ch.ro 0 (Sl a23 r20.1.1 c24) r20.1.1, Ch.ro n0 (Sl a7 r2.1.2 c8) r2.1.2, Ch.ro n0 (Sl a5 r2.1.1 c6) r2.1.1, Ch.bx n0 b89 0 [(I r84.1.1), (Sl a87 r84.1.2.1 c88), (I r84.1.2.2)] [] [], Ch.own n0 n0 (Sl a87 r84.1.2.1 c88) r84.1.2.1, Ch.ro 0 (Sl a81 r78 c82) r78, Ch.ro 0 (Sl a26 r20.1.2 c27) r20.1.2, Ch.ro 0 (Sl a23 r20.1.1 c24) r20.1.1, Ch.ro n0 (Sl a9 r2.2.1.2.2.1 c10) r2.2.1.2.2.1, Ch.ro n0 (Sl a26 r20.1.2 c27) r20.1.2, Ch.ro n0 (Sl a23 r20.1.1 c24) r20.1.1, Ch.bx n0 b12 0 [(Sl a5 r2.1.1 c6), (Sl a7 r2.1.2 c8)] [] [], Ch.bx n0 b14 0 [(I r2.2.1.1), (I r2.2.1.2.1), (Sl a9 r2.2.1.2.2.1 c10), (I r2.2.1.2.2.2)] [] [], Ch.bx n0 b29 0 [(Sl a23 r20.1.1 c24), (Sl a26 r20.1.2 c27)] [] [], Ch.own n0 n0 (Sl a37 r34.1.1 c38) r34.1.1, Ch.own n0 n0 (Sl a39 r34.1.2 c40) r34.1.2, Ch.bx n0 b42 0 [(Sl a37 r34.1.1 c38), (Sl a39 r34.1.2 c40)] [] []] ∧ Md (fun i => (fun i => (cov []) i ∨ (fun i => (cov [Ch.ro 0 (Sl a23 r20.1.1 c24) r20.1.1, Ch.ro 0 (Sl a26 r20.1.2 c27) r20.1.2]) i ∨ (fun b => blk (Sl a99 r96 c100) = some b) i) i) i ∨ (fun i => (cov [Ch.ro 0 (Sl a5 r2.1.1 c6) r2.1.1, Ch.ro 0 (Sl a7 r2.1.2 c8) r2.1.2]) i ∨ (fun b => blk (Sl a105 r102 c106) = some b) i) i) σ93 σm] [fun ((a99, c100, a105, c106) : (Option Addr) × (Nat) × (Option Addr) × (Nat)) => (.agg #[(Sl a23 r20.1.1 c24), (Sl a26 r20.1.2 c27)]), fun ((a99, c100, a105, c106) : (Option Addr) × (Nat) × (Option Addr) × (Nat)) => (I r2.2.2), fun ((a99, c100, a105, c106) : (Option Addr) × (Nat) × (Option Addr) × (Nat)) => (I (w64 (r2.2.2 - 1))), fun ((a99, c100, a105, c106) : (Option Addr) × (Nat) × (Option Addr) × (Nat)) => (Sl a99 r96 c100), fun ((a99, c100, a105, c106) : (Option Addr) × (Nat) × (Option Addr) × (Nat)) => (.agg #[(Sl a5 r2.1.1 c6), (Sl a7 r2.1.2 c8)]), fun ((a99, c100, a105, c106) : (Option Addr) × (Nat) × (Option Addr) × (Nat)) => (I r2.2.2), fun ((a99, c100, a105, c106) : (Option Addr) × (Nat) × (Option Addr) × (Nat)) => (I (w64 (r2.2.2 - 1))), fun ((a99, c100, a105, c106) : (Option Addr) × (Nat) × (Option Addr) × (Nat)) => (Sl a105 r102 c106), fun ((a99, c100, a105, c106) : (Option Addr) × (Nat) × (Option Addr) × (Nat)) => (B r107), fun ((a99, c100, a105, c106) : (Option Addr) × (Nat) × (Option Addr) × (Nat)) => (B r107), fun ((a99, c100, a105, c106) : (Option Addr) × (Nat) × (Option Addr) × (Nat)) => (B r84.2), fun ((a99, c100, a105, c106) : (Option Addr) × (Nat) × (Option Addr) × (Nat)) => (pt b14 0), fun ((a99, c100, a105, c106) : (Option Addr) × (Nat) × (Option Addr) × (Nat)) => (I r2.2.1.1), fun ((a99, c100, a105, c106) : (Option Addr) × (Nat) × (Option Addr) × (Nat)) => (B (r2.2.1.1 == 1)), fun ((a99, c100, a105, c106) : (Option Addr) × (Nat) × (Option Addr) × (Nat)) => (B (r84.2 == (r2.2.1.1 == 1))), fun ((a99, c100, a105, c106) : (Option Addr) × (Nat) × (Option Addr) × (Nat)) => (B (r84.2 == (r2.2.1.1 == 1))), fun ((a99, c100, a105, c106) : (Option Addr) × (Nat) × (Option Addr) × (Nat)) => (B (r84.2 == (r2.2.1.1 == 1))), fun ((a99, c100, a105, c106) : (Option Addr) × (Nat) × (Option Addr) × (Nat)) => undef, fun ((a99, c100, a105, c106) : (Option Addr) × (Nat) × (Option Addr) × (Nat)) => undef, fun ((a99, c100, a105, c106) : (Option Addr) × (Nat) × (Option Addr) × (Nat)) => undef, fun ((a99, c100, a105, c106) : (Option Addr) × (Nat) × (Option Addr) × (Nat)) => undef, fun ((a99, c100, a105, c106) : (Option Addr) × (Nat) × (Option Addr) × (Nat)) => undef, fun ((a99, c100, a105, c106) : (Option Addr) × (Nat) × (Option Addr) × (Nat)) => undef] (none, 0, none, 0) (by kernel_rfl) (by kernel_rfl) ?_ ?_ ?_
       ·intro σm m0
        exact ⟨H.grow (m0.mono fun _ h => h.elim), m0⟩
       ·refine all_cons (by
          refine ⟨?_, ?_⟩
          ·rintro ⟨a99, c100, a105, c106⟩ ρ σm hJ hoff hdep
           have e6 := look_off (N := 96) (hoff 6 rfl) rfl
           obtain ⟨H, m⟩ := id hJ
           have hc95 := H.cells 16 rfl
           exact dp_v (v := (.agg #[(Sl a23 r20.1.1 c24), (Sl a26 r20.1.2 c27)])) wn (rv_load (cs := [(Sl a23 r20.1.1 c24), (Sl a26 r20.1.2 c27)]) Try.underlying26 rfl ti26 e6 rfl hc95) rfl hJ
          trivial) ?_
        refine ac rfl (by
          intro k; rintro ⟨a99, c100, a105, c106⟩ ρ σm hJ hoff hdep
          have e5 := look_off (N := 96) (hoff 5 rfl) rfl
          exact dp_v (v := (I r2.2.2)) wn (rv_move e5) rfl hJ) ?_
        refine ac rfl (by
          intro k; rintro ⟨a99, c100, a105, c106⟩ ρ σm hJ hoff hdep
          have e67 := hdep 1 rfl rfl 67 rfl
          exact dp_v (v := (I (w64 (r2.2.2 - 1)))) wn (rv_sub (a := r2.2.2) (b := 1) e67 rfl) rfl hJ) ?_
        refine all_cons (by
          refine ⟨?_, ?_⟩
          ·rintro ⟨a99, c100, a105, c106⟩ ρ σm hJ hoff hdep
           have e66 : look 96 ρ 66 = (.agg #[(Sl a23 r20.1.1 c24), (Sl a26 r20.1.2 c27)]) := hdep 0 rfl rfl 66 rfl
           have e68 : look 96 ρ 68 = (I (w64 (r2.2.2 - 1))) := hdep 2 rfl rfl 68 rfl
           obtain ⟨H, m⟩ := id hJ
           refine dp_cx wn (cx_call hc98 (ent_f hc98.fn (by show [look 96 ρ 66, look 96 ρ 68] = _; rw [e66, e68])) hn0 (H.sel' [3, 2, 0, 1, 2, 3, 4, 5, 6, 7, 8, 9, 10, 11, 12, 13, 14, 15, 16, 17, 18, 19] rfl rfl : Hp S0 σ0 _ ([_, _] ++ _))) ?_
           rintro _ σq ⟨_, ⟨a99x, c100x, rfl, rfl⟩, H2, m2⟩
           obtain ⟨σr0, hwr0, H2, mr0⟩ := H2.pub 0 rfl (Nat.le_refl _)
           exact ⟨_, (a99x, c100x, a105, c106), hwr0, rfl, ⟨H2.sel' [0, 1, 2, 3, 4, 5, 6, 7, 8, 9, 10, 11, 12, 13, 14, 15, 16, 17, 18, 19, 20] rfl rfl, m.comp (m2.comp mr0)⟩, stab [0, 1, 2, 4, 5, 6] (by kernel_rfl) ⟨rfl, rfl, rfl, rfl, rfl, rfl, trivial⟩⟩
          trivial) ?_
        refine all_cons (by
          refine ⟨?_, ?_⟩
          ·rintro ⟨a99, c100, a105, c106⟩ ρ σm hJ hoff hdep
           have e3 := look_off (N := 96) (hoff 3 rfl) rfl
           obtain ⟨H, m⟩ := id hJ
           have hc101 := H.cells 14 rfl
           exact dp_v (v := (.agg #[(Sl a5 r2.1.1 c6), (Sl a7 r2.1.2 c8)])) wn (rv_load (cs := [(Sl a5 r2.1.1 c6), (Sl a7 r2.1.2 c8)]) Try.underlying26 rfl ti26 e3 rfl hc101) rfl hJ
          refine ⟨?_, ?_⟩
          ·rintro ⟨a99, c100, a105, c106⟩ ρ σm hJ hoff hdep
           have e3 := look_off (N := 96) (hoff 3 rfl) rfl
           obtain ⟨H, m⟩ := id hJ
           have hc101 := H.cells 15 rfl
           exact dp_v (v := (.agg #[(Sl a5 r2.1.1 c6), (Sl a7 r2.1.2 c8)])) wn (rv_load (cs := [(Sl a5 r2.1.1 c6), (Sl a7 r2.1.2 c8)]) Try.underlying26 rfl ti26 e3 rfl hc101) rfl hJ
          trivial) ?_
        refine ac rfl (by
          intro k; rintro ⟨a99, c100, a105, c106⟩ ρ σm hJ hoff hdep
          have e5 := look_off (N := 96) (hoff 5 rfl) rfl
          exact dp_v (v := (I r2.2.2)) wn (rv_move e5) rfl hJ) ?_
        refine ac rfl (by
          intro k; rintro ⟨a99, c100, a105, c106⟩ ρ σm hJ hoff hdep
          have e71 := hdep 5 rfl rfl 71 rfl
          exact dp_v (v := (I (w64 (r2.2.2 - 1)))) wn (rv_sub (a := r2.2.2) (b := 1) e71 rfl) rfl hJ) ?_
        refine all_cons (by
          refine ⟨?_, ?_⟩
          ·rintro ⟨a99, c100, a105, c106⟩ ρ σm hJ hoff hdep
           have e70 : look 96 ρ 70 = (.agg #[(Sl a5 r2.1.1 c6), (Sl a7 r2.1.2 c8)]) := hdep 4 rfl rfl 70 rfl
           have e72 : look 96 ρ 72 = (I (w64 (r2.2.2 - 1))) := hdep 6 rfl rfl 72 rfl
           obtain ⟨H, m⟩ := id hJ
           refine dp_cx wn (cx_call hc104 (ent_f hc104.fn (by show [look 96 ρ 70, look 96 ρ 72] = _; rw [e70, e72])) hn0 (H.sel' [2, 1, 0, 1, 2, 3, 4, 5, 6, 7, 8, 9, 10, 11, 12, 13, 14, 15, 16, 17, 18, 19, 20] rfl rfl : Hp S0 σ0 _ ([_, _] ++ _))) ?_
           rintro _ σq ⟨_, ⟨a105x, c106x, rfl, rfl⟩, H2, m2⟩
           obtain ⟨σr0, hwr0, H2, mr0⟩ := H2.pub 0 rfl (Nat.le_refl _)
           exact ⟨_, (a99, c100, a105x, c106x), hwr0, rfl, ⟨H2.sel' [0, 1, 2, 3, 4, 5, 6, 7, 8, 9, 10, 11, 12, 13, 14, 15, 16, 17, 18, 19, 20, 21] rfl rfl, m.comp (m2.comp mr0)⟩, stab [0, 1, 2, 3, 4, 5, 6] (by kernel_rfl) ⟨rfl, rfl, rfl, rfl, rfl, rfl, rfl, trivial⟩⟩
          trivial) ?_
        refine all_cons (by
          refine ⟨?_, ?_⟩
          ·rintro ⟨a99, c100, a105, c106⟩ ρ σm hJ hoff hdep
           have e69 : look 96 ρ 69 = (Sl a99 r96 c100) := hdep 3 rfl rfl 69 rfl
           have e73 : look 96 ρ 73 = (Sl a105 r102 c106) := hdep 7 rfl rfl 73 rfl
           obtain ⟨H, m⟩ := id hJ
           refine dp_cx wn (cx_call (hc109 a99 c100 a105 c106) (ent_f (hc109 a99 c100 a105 c106).fn (by show [look 96 ρ 69, look 96 ρ 73] = _; rw [e69, e73])) hn0 (H.sel' [1, 0, 0, 1, 2, 3, 4, 5, 6, 7, 8, 9, 10, 11, 12, 13, 14, 15, 16, 17, 18, 19, 20, 21] rfl rfl : Hp S0 σ0 _ ([_, _] ++ _))) ?_
           rintro _ σq ⟨_, ⟨rfl, rfl⟩, H2, m2⟩
           exact ⟨_, (a99, c100, a105, c106), rfl, rfl, ⟨H2.sel' [0, 1, 2, 3, 4, 5, 6, 7, 8, 9, 10, 11, 12, 13, 14, 15, 16, 17, 18, 19, 20, 21] rfl rfl, m.comp0 (m2.mono (fun i h => by simp [cov, Ch.ro] at h))⟩, stab [0, 1, 2, 3, 4, 5, 6, 7] (by kernel_rfl) ⟨rfl, rfl, rfl, rfl, rfl, rfl, rfl, rfl, trivial⟩⟩
          trivial) ?_
        refine ac rfl (by
          intro k; rintro ⟨a99, c100, a105, c106⟩ ρ σm hJ hoff hdep
          have e74 := hdep 8 rfl rfl 74 rfl
          exact dp_v (v := (B r107)) wn (rv_move e74) rfl hJ) ?_
        refine ac rfl (by
          intro k; rintro ⟨a99, c100, a105, c106⟩ ρ σm hJ hoff hdep
          have e11 := look_off (N := 96) (hoff 11 rfl) rfl
          have e75 := hdep 9 rfl rfl 75 rfl
          exact dp_v (v := (B r84.2)) (wanted_yes rfl (yv_of rfl (e75.trans (congrArg B hb110)))) (rv_move e11) rfl hJ) ?_
        refine ac rfl (by
          intro k; rintro ⟨a99, c100, a105, c106⟩ ρ σm hJ hoff hdep
          have e4 := look_off (N := 96) (hoff 4 rfl) rfl
          have e75 := hdep 9 rfl rfl 75 rfl
          exact dp_v (v := (pt b14 0)) (wanted_yes rfl (yv_of rfl (e75.trans (congrArg B hb110)))) (rv_fieldAddr (off := 0) (ft := 3) Try.underlying43 rfl ti3 rfl e4) rfl hJ) ?_
        refine all_cons (by
          refine ⟨?_, ?_⟩
          ·rintro ⟨a99, c100, a105, c106⟩ ρ σm hJ hoff hdep
           have e77 := hdep 11 rfl rfl 77 rfl
           have e75 := hdep 9 rfl rfl 75 rfl
           obtain ⟨H, m⟩ := id hJ
           have hc111 := H.cell (u := (I r2.2.1.1)) (o' := 0) 17 0 rfl rfl rfl
           exact dp_v (v := (I r2.2.1.1)) (wanted_yes rfl (yv_of rfl (e75.trans (congrArg B hb110)))) (rv_load1 Try.underlying3 rfl e77 hc111) rfl hJ
          trivial) ?_
        refine ac rfl (by
          intro k; rintro ⟨a99, c100, a105, c106⟩ ρ σm hJ hoff hdep
          have e78 := hdep 12 rfl rfl 78 rfl
          have e75 := hdep 9 rfl rfl 75 rfl
          exact dp_v (v := (B (r2.2.1.1 == 1))) (wanted_yes rfl (yv_of rfl (e75.trans (congrArg B hb110)))) (rv_eql (a := r2.2.1.1) (b := 1) e78 rfl) rfl hJ) ?_
        refine ac rfl (by
          intro k; rintro ⟨a99, c100, a105, c106⟩ ρ σm hJ hoff hdep
          have e76 := hdep 10 rfl rfl 76 rfl
          have e79 := hdep 13 rfl rfl 79 rfl
          have e75 := hdep 9 rfl rfl 75 rfl
          exact dp_v (v := (B (r84.2 == (r2.2.1.1 == 1)))) (wanted_yes rfl (yv_of rfl (e75.trans (congrArg B hb110)))) (rv_beql Try.underlying4 e76 e79) rfl hJ) ?_
        refine ac rfl (by
          intro k; rintro ⟨a99, c100, a105, c106⟩ ρ σm hJ hoff hdep
          have e75 := hdep 9 rfl rfl 75 rfl
          have e80 := hdep 14 rfl rfl 80 rfl
          exact dp_v (v := (B (r84.2 == (r2.2.1.1 == 1)))) wn (rv_pick_t (e75.trans (congrArg B hb110)) e80) rfl hJ) ?_
        refine ac rfl (by
          intro k; rintro ⟨a99, c100, a105, c106⟩ ρ σm hJ hoff hdep
          have e81 := hdep 15 rfl rfl 81 rfl
          exact dp_v (v := (B (r84.2 == (r2.2.1.1 == 1)))) wn (rv_move e81) rfl hJ) ?_
        refine ac rfl (by
          intro k; rintro ⟨a99, c100, a105, c106⟩ ρ σm hJ hoff hdep
          have e82 := hdep 16 rfl rfl 82 rfl
          exact dp_skip (wanted_no rfl (yv_of rfl (e82.trans (congrArg B hb112)))) rfl hJ) ?_
        refine ac rfl (by
          intro k; rintro ⟨a99, c100, a105, c106⟩ ρ σm hJ hoff hdep
          have e82 := hdep 16 rfl rfl 82 rfl
          exact dp_skip (wanted_no rfl (yv_of rfl (e82.trans (congrArg B hb112)))) rfl hJ) ?_
        refine ac rfl (by
          intro k; rintro ⟨a99, c100, a105, c106⟩ ρ σm hJ hoff hdep
          have e82 := hdep 16 rfl rfl 82 rfl
          exact dp_skip (wanted_no rfl (yv_of rfl (e82.trans (congrArg B hb112)))) rfl hJ) ?_
        refine ac rfl (by
          intro k; rintro ⟨a99, c100, a105, c106⟩ ρ σm hJ hoff hdep
          have e85 := hdep 19 rfl rfl 85 rfl
          exact dp_skip (wanted_u rfl (yv_undef rfl e85)) rfl hJ) ?_
        refine ac rfl (by
          intro k; rintro ⟨a99, c100, a105, c106⟩ ρ σm hJ hoff hdep
          have e85 := hdep 19 rfl rfl 85 rfl
          exact dp_skip (wanted_u rfl (yv_undef rfl e85)) rfl hJ) ?_
        refine ac rfl (by
          intro k; rintro ⟨a99, c100, a105, c106⟩ ρ σm hJ hoff hdep
          have e85 := hdep 19 rfl rfl 85 rfl
          exact dp_skip (wanted_u rfl (yv_undef rfl e85)) rfl hJ) ?_
        exact all_nil
       ·rintro ⟨a99, c100, a105, c106⟩ ρ σ135 hJ hoff hrel
        have e6 := look_off (N := 96) (hoff 6 rfl) rfl
        have e82 := hrel 16 rfl 82 rfl
        have e85 := hrel 19 rfl 85 rfl
        have e86 := hrel 20 rfl 86 rfl
        have e88 := hrel 22 rfl 88 rfl
        obtain ⟨H, -⟩ := (show Hp S0 σ0 σ135 [Ch.ro 0 (Sl a105 r102 c106) r102, Ch.ro 0 (Sl a99 r96 c100) r96, Ch.ro 0 (Sl a7 r2.1.2 c8) r2.1.2, Ch.ro 0 (Sl a5 r2.1.1 c6) r2.1.1, Ch.ro 0 (Sl a26 r20.1.2 c27) r20.1.2, Ch.ro 0 (Sl a23 r20.1.1 c24) r20.1.1, Ch.ro n0 (Sl a7 r2.1.2 c8) r2.1.2, Ch.ro n0 (Sl a5 r2.1.1 c6) r2.1.1, Ch.bx n0 b89 0 [(I r84.1.1), (Sl a87 r84.1.2.1 c88), (I r84.1.2.2)] [] [], Ch.own n0 n0 (Sl a87 r84.1.2.1 c88) r84.1.2.1, Ch.ro 0 (Sl a81 r78 c82) r78, Ch.ro 0 (Sl a26 r20.1.2 c27) r20.1.2, Ch.ro 0 (Sl a23 r20.1.1 c24) r20.1.1, Ch.ro n0 (Sl a9 r2.2.1.2.2.1 c10) r2.2.1.2.2.1, Ch.ro n0 (Sl a26 r20.1.2 c27) r20.1.2, Ch.ro n0 (Sl a23 r20.1.1 c24) r20.1.1, Ch.bx n0 b12 0 [(Sl a5 r2.1.1 c6), (Sl a7 r2.1.2 c8)] [] [], Ch.bx n0 b14 0 [(I r2.2.1.1), (I r2.2.1.2.1), (Sl a9 r2.2.1.2.2.1 c10), (I r2.2.1.2.2.2)] [] [], Ch.bx n0 b29 0 [(Sl a23 r20.1.1 c24), (Sl a26 r20.1.2 c27)] [] [], Ch.own n0 n0 (Sl a37 r34.1.1 c38) r34.1.1, Ch.own n0 n0 (Sl a39 r34.1.2 c40) r34.1.2, Ch.bx n0 b42 0 [(Sl a37 r34.1.1 c38), (Sl a39 r34.1.2 c40)] [] []] ∧ Md (fun i => (fun i => (cov []) i ∨ (fun i => (cov [Ch.ro 0 (Sl a23 r20.1.1 c24) r20.1.1, Ch.ro 0 (Sl a26 r20.1.2 c27) r20.1.2]) i ∨ (fun b => blk (Sl a99 r96 c100) = some b) i) i) i ∨ (fun i => (cov [Ch.ro 0 (Sl a5 r2.1.1 c6) r2.1.1, Ch.ro 0 (Sl a7 r2.1.2 c8) r2.1.2]) i ∨ (fun b => blk (Sl a105 r102 c106) = some b) i) i) σ93 σ135 from hJ)
        clear hJ Hs
        rw [fr_lookL (L := [(6, (pt b29 0)), (82, (B (r84.2 == (r2.2.1.1 == 1)))), (85, undef), (86, undef), (88, undef)]) ⟨e6, e82, e85, e86, e88, trivial⟩]
        clear hoff hrel e6 e82 e85 e86 e88
        refine st_skip_u rfl (st_skip (congrArg some hb112) (st (v := (B false)) (rv_pick_f (congrArg B hb112) rfl) (sm (B false) rfl (st_skip rfl (st_skip rfl (st (v := (B false)) (rv_pick_f rfl rfl) (sa (B false) rfl (w_end (q_then (c_ret ?_))))))))))
        obtain rfl := sj h
        exact fin_ret (v := (B false)) (results_ok Try.results6 (res_tmp (v := (B false)) rfl res_nil) rfl) ⟨rfl, rfl⟩ (H.sel' [] rfl rfl)
     ·replace h := bif_f hb110 h
      have Hs := H
      refine rg2 (σ := σ93) (Nm := (Option Addr) × (Nat) × (Option Addr) × (Nat)) 23 [3, 7, 8] [[false, false, false], [true, false, false], [true, true, false], [true, true, true]] [[(0, 0)], [(0, 0)], [(0, 0)], [(0, 1)], [(0, 0), (1, 1)], [(0, 0), (1, 1)], [(0, 0), (1, 1)], [(1, 2)], [(2, 3)], [(3, 3)], [(3, 3)], [(3, 3)], [(3, 3)], [(3, 3)], [(3, 3)], [(3, 3)], [(3, 3)], [(3, 3)], [(3, 3)], [(3, 3)], [(3, 3)], [(3, 3)], [(3, 3)]] 3 [fun ((a99, c100, a105, c106) : (Option Addr) × (Nat) × (Option Addr) × (Nat)) => fun σm => Hp S0 σ0 σm [Ch.ro 0 (Sl a7 r2.1.2 c8) r2.1.2, Ch.ro 0 (Sl a5 r2.1.1 c6) r2.1.1, Ch.ro 0 (Sl a26 r20.1.2 c27) r20.1.2, Ch.ro 0 (Sl a23 r20.1.1 c24) r20.1.1, Ch.ro n0 (Sl a7 r2.1.2 c8) r2.1.2, Ch.ro n0 (Sl a5 r2.1.1 c6) r2.1.1, Ch.bx n0 b89 0 [(I r84.1.1), (Sl a87 r84.1.2.1 c88), (I r84.1.2.2)] [] [], Ch.own n0 n0 (Sl a87 r84.1.2.1 c88) r84.1.2.1, Ch.ro 0 (Sl a81 r78 c82) r78, Ch.ro 0 (Sl a26 r20.1.2 c27) r20.1.2, Ch.ro 0 (Sl a23 r20.1.1 c24) r20.1.1, Ch.ro n0 (Sl a9 r2.2.1.2.2.1 c10) r2.2.1.2.2.1, Ch.ro n0 (Sl a26 r20.1.2 c27) r20.1.2, Ch.ro n0 (Sl a23 r20.1.1 c24) r20.1.1, Ch.bx n0 b12 0 [(Sl a5 r2.1.1 c6), (Sl a7 r2.1.2 c8)] [] [], Ch.bx n0 b14 0 [(I r2.2.1.1), (I r2.2.1.2.1), (Sl a9 r2.2.1.2.2.1 c10), (I r2.2.1.2.2.2)] [] [], Ch.bx n0 b29 0 [(Sl a23 r20.1.1 c24), (Sl a26 r20.1.2 c27)] [] [], Ch.own n0 n0 (Sl a37 r34.1.1 c38) r34.1.1, Ch.own n0 n0 (Sl a39 r34.1.2 c40) r34.1.2, Ch.bx n0 b42 0 [(Sl a37 r34.1.1 c38), (Sl a39 r34.1.2 c40)] [] []] ∧ Md (cov []) σ93 σm, fun ((a99, c100, a105, c106) : (Option Addr) × (Nat) × (Option Addr) × (Nat)) => fun σm => Hp S0 σ0 σm [Ch.ro 0 (Sl a99 r96 c100) r96, Ch.ro 0 (Sl a7 r2.1.2 c8) r2.1.2, Ch.ro 0 (Sl a5 r2.1.1 c6) r2.1.1, Ch.ro 0 (Sl a26 r20.1.2 c27) r20.1.2, Ch.ro 0 (Sl a23 r20.1.1 c24) r20.1.1, Ch.ro n0 (Sl a7 r2.1.2 c8) r2.1.2, Ch.ro n0 (Sl a5 r2.1.1 c6) r2.1.1, Ch.bx n0 b89 0 [(I r84.1.1), (Sl a87 r84.1.2.1 c88), (I r84.1.2.2)] [] [], Ch.own n0 n0 (Sl a87 r84.1.2.1 c88) r84.1.2.1, Ch.ro 0 (Sl a81 r78 c82) r78, Ch.ro 0 (Sl a26 r20.1.2 c27) r20.1.2, Ch.ro 0 (Sl a23 r20.1.1 c24) r20.1.1, Ch.ro n0 (Sl a9 r2.2.1.2.2.1 c10) r2.2.1.2.2.1, Ch.ro n0 (Sl a26 r20.1.2 c27) r20.1.2, Ch.ro n0 (Sl a23 r20.1.1 c24) r20.1.1, Ch.bx n0 b12 0 [(Sl a5 r2.1.1 c6), (Sl a7 r2.1.2 c8)] [] [], Ch.bx n0 b14 0 [(I r2.2.1.1), (I r2.2.1.2.1), (Sl a9 r2.2.1.2.2.1 c10), (I r2.2.1.2.2.2)] [] [], Ch.bx n0 b29 0 [(Sl a23 r20.1.1 c24), (Sl a26 r20.1.2 c27)] [] [], Ch.own n0 n0 (Sl a37 r34.1.1 c38) r34.1.1, Ch.own n0 n0 (Sl a39 r34.1.2 c40) r34.1.2, Ch.bx n0 b42 0 [(Sl a37 r34.1.1 c38), (Sl a39 r34.1.2 c40)] [] []] ∧ Md (fun i => (cov []) i ∨ (fun i => (cov [Ch.ro 0 (Sl a23 r20.1.1 c24) r20.1.1, Ch.ro 0 (Sl a26 r20.1.2 c27) r20.1.2]) i ∨ (fun b => blk (Sl a99 r96 c100) = some b) i) i) σ93 σm, fun ((a99, c100, a105, c106) : (Option Addr) × (Nat) × (Option Addr) × (Nat)) => fun σm => Hp S0 σ0 σm [Ch.ro 0 (Sl a105 r102 c106) r102, Ch.ro 0 (Sl a99 r96 c100) r96, Ch.ro 0 (Sl a7 r2.1.2 c8) r2.1.2, Ch.ro 0 (Sl a5 r2.1.1 c6) r2.1.1, Ch.ro 0 (Sl a26 r20.1.2 c27) r20.1.2, Ch.ro 0 (Sl a23 r20.1.1 c24) r20.1.1, Ch.ro n0 (Sl a7 r2.1.2 c8) r2.1.2, Ch.ro n0 (Sl a5 r2.1.1 c6) r2.1.1, Ch.bx n0 b89 0 [(I r84.1.1), (Sl a87 r84.1.2.1 c88), (I r84.1.2.2)] [] [], Ch.own n0 n0 (Sl a87 r84.1.2.1 c88) r84.1.2.1, Ch.ro 0 (Sl a81 r78 c82) r78, Ch.ro 0 (Sl a26 r20.1.2 c27) r20.1.2, Ch.ro 0 (Sl a23 r20.1.1 c24) r20.1.1, Ch.ro n0 (Sl a9 r2.2.1.2.2.1 c10) r2.2.1.2.2.1, Ch.ro n0 (Sl a26 r20.1.2 c27) r20.1.2, Ch.ro n0 (Sl a23 r20.1.1 c24) r20.1.1, Ch.bx n0 b12 0 [(Sl a5 r2.1.1 c6), (Sl a7 r2.1.2 c8)] [] [], Ch.bx n0 b14 0 [(I r2.2.1.1), (I r2.2.1.2.1), (Sl a9 r2.2.1.2.2.1 c10), (I r2.2.1.2.2.2)] [] [], Ch.bx n0 b29 0 [(Sl a23 r20.1.1 c24), (Sl a26 r20.1.2 c27)] [] [], Ch.own n0 n0 (Sl a37 r34.1.1 c38) r34.1.1, Ch.own n0 n0 (Sl a39 r34.1.2 c40) r34.1.2, Ch.bx n0 b42 0 [(Sl a37 r34.1.1 c38), (Sl a39 r34.1.2 c40)] [] []] ∧ Md (fun i => (fun i => (cov []) i ∨ (fun i => (cov [Ch.ro 0 (Sl a23 r20.1.1 c24) r20.1.1, Ch.ro 0 (Sl a26 r20.1.2 c27) r20.1.2]) i ∨ (fun b => blk (Sl a99 r96 c100) = some b) i) i) i ∨ (fun i => (cov [Ch.ro 0 (Sl a5 r2.1.1 c6) r2.1.1, Ch.ro 0 (Sl a7 r2.1.2 c8) r2.1.2]) i ∨ (fun b => blk (Sl a105 r102 c106) = some b) i) i) σ93 σm, fun ((a99, c100, a105, c106) : (Option Addr) × (Nat) × (Option Addr) × (Nat)) => fun σm => Hp S0 σ0 σm [Ch.ro 0 (Sl a105 r102 c106) r102, Ch.ro 0 (Sl a99 r96 c100) r96, Ch.ro 0 (Sl a7 r2.1.2 c8) r2.1.2, Ch.ro 0 (Sl a5 r2.1.1 c6) r2.1.1, Ch.ro 0 (Sl a26 r20.1.2 c27) r20.1.2, Ch.ro 0 (Sl a23 r20.1.1 c24) r20.1.1, Ch.ro n0 (Sl a7 r2.1.2 c8) r2.1.2, Ch.ro n0 (Sl a5 r2.1.1 c6) r2.1.1, Ch.bx n0 b89 0 [(I r84.1.1), (Sl a87 r84.1.2.1 c88), (I r84.1.2.2)] [] [], Ch.own n0 n0 (Sl a87 r84.1.2.1 c88) r84.1.2.1, Ch.ro 0 (Sl a81 r78 c82) r78, Ch.ro 0 (Sl a26 r20.1.2 c27) r20.1.2, Ch.ro 0 (Sl a23 r20.1.1 c24) r20.1.1, Ch.ro n0 (Sl a9 r2.2.1.2.2.1 c10) r2.2.1.2.2.1, Ch.ro n0 (Sl a26 r20.1.2 c27) r20.1.2, Ch.ro n0 (Sl a23 r20.1.1 c24) r20.1.1, Ch.bx n0 b12 0 [(Sl a5 r2.1.1 c6), (Sl a7 r2.1.2 c8)] [] [], Ch.bx n0 b14 0 [(I r2.2.1.1), (I r2.2.1.2.1), (Sl a9 r2.2.1.2.2.1 c10), (I r2.2.1.2.2.2)] [] [], Ch.bx n0 b29 0 [(Sl a23 r20.1.1 c24), (Sl a26 r20.1.2 c27)] [] [], Ch.own n0 n0 (Sl a37 r34.1.1 c38) r34.1.1, Ch.own n0 n0 (Sl a39 r34.1.2 c40) r34.1.2, Ch.bx n0 b42 0 [(Sl a37 r34.1.1 c38), (Sl a39 r34.1.2 c40)] [] []] ∧ Md (fun i => (fun i => (cov []) i ∨ (fun i => (cov [Ch.ro 0 (Sl a23 r20.1.1 c24) r20.1.1, Ch.ro 0 (Sl a26 r20.1.2 c27) r20.1.2]) i ∨ (fun b => blk (Sl a99 r96 c100) = some b) i) i) i ∨ (fun i => (cov [Ch.ro 0 (Sl a5 r2.1.1 c6) r2.1.1, Ch.ro 0 (Sl a7 r2.1.2 c8) r2.1.2]) i ∨ (fun b => blk (Sl a105 r102 c106) = some b) i) i) σ93 σm] [fun ((a99, c100, a105, c106) : (Option Addr) × (Nat) × (Option Addr) × (Nat)) => (.agg #[(Sl a23 r20.1.1 c24), (Sl a26 r20.1.2 c27)]), fun ((a99, c100, a105, c106) : (Option Addr) × (Nat) × (Option Addr) × (Nat)) => (I r2.2.2), fun ((a99, c100, a105, c106) : (Option Addr) × (Nat) × (Option Addr) × (Nat)) => (I (w64 (r2.2.2 - 1))), fun ((a99, c100, a105, c106) : (Option Addr) × (Nat) × (Option Addr) × (Nat)) => (Sl a99 r96 c100), fun ((a99, c100, a105, c106) : (Option Addr) × (Nat) × (Option Addr) × (Nat)) => (.agg #[(Sl a5 r2.1.1 c6), (Sl a7 r2.1.2 c8)]), fun ((a99, c100, a105, c106) : (Option Addr) × (Nat) × (Option Addr) × (Nat)) => (I r2.2.2), fun ((a99, c100, a105, c106) : (Option Addr) × (Nat) × (Option Addr) × (Nat)) => (I (w64 (r2.2.2 - 1))), fun ((a99, c100, a105, c106) : (Option Addr) × (Nat) × (Option Addr) × (Nat)) => (Sl a105 r102 c106), fun ((a99, c100, a105, c106) : (Option Addr) × (Nat) × (Option Addr) × (Nat)) => (B r107), fun ((a99, c100, a105, c106) : (Option Addr) × (Nat) × (Option Addr) × (Nat)) => (B r107), fun ((a99, c100, a105, c106) : (Option Addr) × (Nat) × (Option Addr) × (Nat)) => undef, fun ((a99, c100, a105, c106) : (Option Addr) × (Nat) × (Option Addr) × (Nat)) => undef, fun ((a99, c100, a105, c106) : (Option Addr) × (Nat) × (Option Addr) × (Nat)) => undef, fun ((a99, c100, a105, c106) : (Option Addr) × (Nat) × (Option Addr) × (Nat)) => undef, fun ((a99, c100, a105, c106) : (Option Addr) × (Nat) × (Option Addr) × (Nat)) => undef, fun ((a99, c100, a105, c106) : (Option Addr) × (Nat) × (Option Addr) × (Nat)) => (B false), fun ((a99, c100, a105, c106) : (Option Addr) × (Nat) × (Option Addr) × (Nat)) => (B false), fun ((a99, c100, a105, c106) : (Option Addr) × (Nat) × (Option Addr) × (Nat)) => undef, fun ((a99, c100, a105, c106) : (Option Addr) × (Nat) × (Option Addr) × (Nat)) => undef, fun ((a99, c100, a105, c106) : (Option Addr) × (Nat) × (Option Addr) × (Nat)) => undef, fun ((a99, c100, a105, c106) : (Option Addr) × (Nat) × (Option Addr) × (Nat)) => undef, fun ((a99, c100, a105, c106) : (Option Addr) × (Nat) × (Option Addr) × (Nat)) => undef, fun ((a99, c100, a105, c106) : (Option Addr) × (Nat) × (Option Addr) × (Nat)) => undef] (none, 0, none, 0) (by kernel_rfl) (by kernel_rfl) ?_ ?_ ?_
      ·intro σm m0
       exact ⟨H.grow (m0.mono fun _ h => h.elim), m0⟩
      ·refine all_cons (by
         refine ⟨?_, ?_⟩
         ·rintro ⟨a99, c100, a105, c106⟩ ρ σm hJ hoff hdep
          have e6 := look_off (N := 96) (hoff 6 rfl) rfl
          obtain ⟨H, m⟩ := id hJ
          have hc95 := H.cells 16 rfl
          exact dp_v (v := (.agg #[(Sl a23 r20.1.1 c24), (Sl a26 r20.1.2 c27)])) wn (rv_load (cs := [(Sl a23 r20.1.1 c24), (Sl a26 r20.1.2 c27)]) Try.underlying26 rfl ti26 e6 rfl hc95) rfl hJ
         trivial) ?_
       refine ac rfl (by
         intro k; rintro ⟨a99, c100, a105, c106⟩ ρ σm hJ hoff hdep
         have e5 := look_off (N := 96) (hoff 5 rfl) rfl
         exact dp_v (v := (I r2.2.2)) wn (rv_move e5) rfl hJ) ?_
       refine ac rfl (by
         intro k; rintro ⟨a99, c100, a105, c106⟩ ρ σm hJ hoff hdep
         have e67 := hdep 1 rfl rfl 67 rfl
         exact dp_v (v := (I (w64 (r2.2.2 - 1)))) wn (rv_sub (a := r2.2.2) (b := 1) e67 rfl) rfl hJ) ?_
       refine all_cons (by
         refine ⟨?_, ?_⟩
         ·rintro ⟨a99, c100, a105, c106⟩ ρ σm hJ hoff hdep
          have e66 : look 96 ρ 66 = (.agg #[(Sl a23 r20.1.1 c24), (Sl a26 r20.1.2 c27)]) := hdep 0 rfl rfl 66 rfl
          have e68 : look 96 ρ 68 = (I (w64 (r2.2.2 - 1))) := hdep 2 rfl rfl 68 rfl
          obtain ⟨H, m⟩ := id hJ
          refine dp_cx wn (cx_call hc98 (ent_f hc98.fn (by show [look 96 ρ 66, look 96 ρ 68] = _; rw [e66, e68])) hn0 (H.sel' [3, 2, 0, 1, 2, 3, 4, 5, 6, 7, 8, 9, 10, 11, 12, 13, 14, 15, 16, 17, 18, 19] rfl rfl : Hp S0 σ0 _ ([_, _] ++ _))) ?_
          rintro _ σq ⟨_, ⟨a99x, c100x, rfl, rfl⟩, H2, m2⟩
          obtain ⟨σr0, hwr0, H2, mr0⟩ := H2.pub 0 rfl (Nat.le_refl _)
          exact ⟨_, (a99x, c100x, a105, c106), hwr0, rfl, ⟨H2.sel' [0, 1, 2, 3, 4, 5, 6, 7, 8, 9, 10, 11, 12, 13, 14, 15, 16, 17, 18, 19, 20] rfl rfl, m.comp (m2.comp mr0)⟩, stab [0, 1, 2, 4, 5, 6] (by kernel_rfl) ⟨rfl, rfl, rfl, rfl, rfl, rfl, trivial⟩⟩
         trivial) ?_
       refine all_cons (by
         refine ⟨?_, ?_⟩
         ·rintro ⟨a99, c100, a105, c106⟩ ρ σm hJ hoff hdep
          have e3 := look_off (N := 96) (hoff 3 rfl) rfl
          obtain ⟨H, m⟩ := id hJ
          have hc101 := H.cells 14 rfl
          exact dp_v (v := (.agg #[(Sl a5 r2.1.1 c6), (Sl a7 r2.1.2 c8)])) wn (rv_load (cs := [(Sl a5 r2.1.1 c6), (Sl a7 r2.1.2 c8)]) Try.underlying26 rfl ti26 e3 rfl hc101) rfl hJ
         refine ⟨?_, ?_⟩
         ·rintro ⟨a99, c100, a105, c106⟩ ρ σm hJ hoff hdep
          have e3 := look_off (N := 96) (hoff 3 rfl) rfl
          obtain ⟨H, m⟩ := id hJ
          have hc101 := H.cells 15 rfl
          exact dp_v (v := (.agg #[(Sl a5 r2.1.1 c6), (Sl a7 r2.1.2 c8)])) wn (rv_load (cs := [(Sl a5 r2.1.1 c6), (Sl a7 r2.1.2 c8)]) Try.underlying26 rfl ti26 e3 rfl hc101) rfl hJ
         trivial) ?_
       refine ac rfl (by
         intro k; rintro ⟨a99, c100, a105, c106⟩ ρ σm hJ hoff hdep
         have e5 := look_off (N := 96) (hoff 5 rfl) rfl
         exact dp_v (v := (I r2.2.2)) wn (rv_move e5) rfl hJ) ?_
       refine ac rfl (by
         intro k; rintro ⟨a99, c100, a105, c106⟩ ρ σm hJ hoff hdep
         have e71 := hdep 5 rfl rfl 71 rfl
         exact dp_v (v := (I (w64 (r2.2.2 - 1)))) wn (rv_sub (a := r2.2.2) (b := 1) e71 rfl) rfl hJ) ?_
       refine all_cons (by
         refine ⟨?_, ?_⟩
         ·rintro ⟨a99, c100, a105, c106⟩ ρ σm hJ hoff hdep
          have e70 : look 96 ρ 70 = (.agg #[(Sl a5 r2.1.1 c6), (Sl a7 r2.1.2 c8)]) := hdep 4 rfl rfl 70 rfl
          have e72 : look 96 ρ 72 = (I (w64 (r2.2.2 - 1))) := hdep 6 rfl rfl 72 rfl
          obtain ⟨H, m⟩ := id hJ
          refine dp_cx wn (cx_call hc104 (ent_f hc104.fn (by show [look 96 ρ 70, look 96 ρ 72] = _; rw [e70, e72])) hn0 (H.sel' [2, 1, 0, 1, 2, 3, 4, 5, 6, 7, 8, 9, 10, 11, 12, 13, 14, 15, 16, 17, 18, 19, 20] rfl rfl : Hp S0 σ0 _ ([_, _] ++ _))) ?_
          rintro _ σq ⟨_, ⟨a105x, c106x, rfl, rfl⟩, H2, m2⟩
          obtain ⟨σr0, hwr0, H2, mr0⟩ := H2.pub 0 rfl (Nat.le_refl _)
          exact ⟨_, (a99, c100, a105x, c106x), hwr0, rfl, ⟨H2.sel' [0, 1, 2, 3, 4, 5, 6, 7, 8, 9, 10, 11, 12, 13, 14, 15, 16, 17, 18, 19, 20, 21] rfl rfl, m.comp (m2.comp mr0)⟩, stab [0, 1, 2, 3, 4, 5, 6] (by kernel_rfl) ⟨rfl, rfl, rfl, rfl, rfl, rfl, rfl, trivial⟩⟩
         trivial) ?_
       refine all_cons (by
         refine ⟨?_, ?_⟩
         ·rintro ⟨a99, c100, a105, c106⟩ ρ σm hJ hoff hdep
          have e69 : look 96 ρ 69 = (Sl a99 r96 c100) := hdep 3 rfl rfl 69 rfl
          have e73 : look 96 ρ 73 = (Sl a105 r102 c106) := hdep 7 rfl rfl 73 rfl
          obtain ⟨H, m⟩ := id hJ
          refine dp_cx wn (cx_call (hc109 a99 c100 a105 c106) (ent_f (hc109 a99 c100 a105 c106).fn (by show [look 96 ρ 69, look 96 ρ 73] = _; rw [e69, e73])) hn0 (H.sel' [1, 0, 0, 1, 2, 3, 4, 5, 6, 7, 8, 9, 10, 11, 12, 13, 14, 15, 16, 17, 18, 19, 20, 21] rfl rfl : Hp S0 σ0 _ ([_, _] ++ _))) ?_
          rintro _ σq ⟨_, ⟨rfl, rfl⟩, H2, m2⟩
          exact ⟨_, (a99, c100, a105, c106), rfl, rfl, ⟨H2.sel' [0, 1, 2, 3, 4, 5, 6, 7, 8, 9, 10, 11, 12, 13, 14, 15, 16, 17, 18, 19, 20, 21] rfl rfl, m.comp0 (m2.mono (fun i h => by simp [cov, Ch.ro] at h))⟩, stab [0, 1, 2, 3, 4, 5, 6, 7] (by kernel_rfl) ⟨rfl, rfl, rfl, rfl, rfl, rfl, rfl, rfl, trivial⟩⟩
         trivial) ?_
       refine ac rfl (by
         intro k; rintro ⟨a99, c100, a105, c106⟩ ρ σm hJ hoff hdep
         have e74 := hdep 8 rfl rfl 74 rfl
         exact dp_v (v := (B r107)) wn (rv_move e74) rfl hJ) ?_
       refine ac rfl (by
         intro k; rintro ⟨a99, c100, a105, c106⟩ ρ σm hJ hoff hdep
         have e75 := hdep 9 rfl rfl 75 rfl
         exact dp_skip (wanted_no rfl (yv_of rfl (e75.trans (congrArg B hb110)))) rfl hJ) ?_
       refine ac rfl (by
         intro k; rintro ⟨a99, c100, a105, c106⟩ ρ σm hJ hoff hdep
         have e75 := hdep 9 rfl rfl 75 rfl
         exact dp_skip (wanted_no rfl (yv_of rfl (e75.trans (congrArg B hb110)))) rfl hJ) ?_
       refine ac rfl (by
         intro k; rintro ⟨a99, c100, a105, c106⟩ ρ σm hJ hoff hdep
         have e75 := hdep 9 rfl rfl 75 rfl
         exact dp_skip (wanted_no rfl (yv_of rfl (e75.trans (congrArg B hb110)))) rfl hJ) ?_
       refine ac rfl (by
         intro k; rintro ⟨a99, c100, a105, c106⟩ ρ σm hJ hoff hdep
         have e75 := hdep 9 rfl rfl 75 rfl
         exact dp_skip (wanted_no rfl (yv_of rfl (e75.trans (congrArg B hb110)))) rfl hJ) ?_
       refine ac rfl (by
         intro k; rintro ⟨a99, c100, a105, c106⟩ ρ σm hJ hoff hdep
         have e75 := hdep 9 rfl rfl 75 rfl
         exact dp_skip (wanted_no rfl (yv_of rfl (e75.trans (congrArg B hb110)))) rfl hJ) ?_
       refine ac rfl (by
         intro k; rintro ⟨a99, c100, a105, c106⟩ ρ σm hJ hoff hdep
         have e75 := hdep 9 rfl rfl 75 rfl
         exact dp_v (v := (B false)) wn (rv_pick_f (e75.trans (congrArg B hb110)) rfl) rfl hJ) ?_
       refine ac rfl (by
         intro k; rintro ⟨a99, c100, a105, c106⟩ ρ σm hJ hoff hdep
         have e81 := hdep 15 rfl rfl 81 rfl
         exact dp_v (v := (B false)) wn (rv_move e81) rfl hJ) ?_
       refine ac rfl (by
         intro k; rintro ⟨a99, c100, a105, c106⟩ ρ σm hJ hoff hdep
         have e82 := hdep 16 rfl rfl 82 rfl
         exact dp_skip (wanted_no rfl (yv_of rfl e82)) rfl hJ) ?_
       refine ac rfl (by
         intro k; rintro ⟨a99, c100, a105, c106⟩ ρ σm hJ hoff hdep
         have e82 := hdep 16 rfl rfl 82 rfl
         exact dp_skip (wanted_no rfl (yv_of rfl e82)) rfl hJ) ?_
       refine ac rfl (by
         intro k; rintro ⟨a99, c100, a105, c106⟩ ρ σm hJ hoff hdep
         have e82 := hdep 16 rfl rfl 82 rfl
         exact dp_skip (wanted_no rfl (yv_of rfl e82)) rfl hJ) ?_
       refine ac rfl (by
         intro k; rintro ⟨a99, c100, a105, c106⟩ ρ σm hJ hoff hdep
         have e85 := hdep 19 rfl rfl 85 rfl
         exact dp_skip (wanted_u rfl (yv_undef rfl e85)) rfl hJ) ?_
       refine ac rfl (by
         intro k; rintro ⟨a99, c100, a105, c106⟩ ρ σm hJ hoff hdep
         have e85 := hdep 19 rfl rfl 85 rfl
         exact dp_skip (wanted_u rfl (yv_undef rfl e85)) rfl hJ) ?_
       refine ac rfl (by
         intro k; rintro ⟨a99, c100, a105, c106⟩ ρ σm hJ hoff hdep
         have e85 := hdep 19 rfl rfl 85 rfl
         exact dp_skip (wanted_u rfl (yv_undef rfl e85)) rfl hJ) ?_
       exact all_nil
      ·rintro ⟨a99, c100, a105, c106⟩ ρ σ136 hJ hoff hrel
       have e6 := look_off (N := 96) (hoff 6 rfl) rfl
       have e82 := hrel 16 rfl 82 rfl
       have e85 := hrel 19 rfl 85 rfl
       have e86 := hrel 20 rfl 86 rfl
       have e88 := hrel 22 rfl 88 rfl
       obtain ⟨H, -⟩ := (show Hp S0 σ0 σ136 [Ch.ro 0 (Sl a105 r102 c106) r102, Ch.ro 0 (Sl a99 r96 c100) r96, Ch.ro 0 (Sl a7 r2.1.2 c8) r2.1.2, Ch.ro 0 (Sl a5 r2.1.1 c6) r2.1.1, Ch.ro 0 (Sl a26 r20.1.2 c27) r20.1.2, Ch.ro 0 (Sl a23 r20.1.1 c24) r20.1.1, Ch.ro n0 (Sl a7 r2.1.2 c8) r2.1.2, Ch.ro n0 (Sl a5 r2.1.1 c6) r2.1.1, Ch.bx n0 b89 0 [(I r84.1.1), (Sl a87 r84.1.2.1 c88), (I r84.1.2.2)] [] [], Ch.own n0 n0 (Sl a87 r84.1.2.1 c88) r84.1.2.1, Ch.ro 0 (Sl a81 r78 c82) r78, Ch.ro 0 (Sl a26 r20.1.2 c27) r20.1.2, Ch.ro 0 (Sl a23 r20.1.1 c24) r20.1.1, Ch.ro n0 (Sl a9 r2.2.1.2.2.1 c10) r2.2.1.2.2.1, Ch.ro n0 (Sl a26 r20.1.2 c27) r20.1.2, Ch.ro n0 (Sl a23 r20.1.1 c24) r20.1.1, Ch.bx n0 b12 0 [(Sl a5 r2.1.1 c6), (Sl a7 r2.1.2 c8)] [] [], Ch.bx n0 b14 0 [(I r2.2.1.1), (I r2.2.1.2.1), (Sl a9 r2.2.1.2.2.1 c10), (I r2.2.1.2.2.2)] [] [], Ch.bx n0 b29 0 [(Sl a23 r20.1.1 c24), (Sl a26 r20.1.2 c27)] [] [], Ch.own n0 n0 (Sl a37 r34.1.1 c38) r34.1.1, Ch.own n0 n0 (Sl a39 r34.1.2 c40) r34.1.2, Ch.bx n0 b42 0 [(Sl a37 r34.1.1 c38), (Sl a39 r34.1.2 c40)] [] []] ∧ Md (fun i => (fun i => (cov []) i ∨ (fun i => (cov [Ch.ro 0 (Sl a23 r20.1.1 c24) r20.1.1, Ch.ro 0 (Sl a26 r20.1.2 c27) r20.1.2]) i ∨ (fun b => blk (Sl a99 r96 c100) = some b) i) i) i ∨ (fun i => (cov [Ch.ro 0 (Sl a5 r2.1.1 c6) r2.1.1, Ch.ro 0 (Sl a7 r2.1.2 c8) r2.1.2]) i ∨ (fun b => blk (Sl a105 r102 c106) = some b) i) i) σ93 σ136 from hJ)
       clear hJ Hs
       rw [fr_lookL (L := [(6, (pt b29 0)), (82, (B false)), (85, undef), (86, undef), (88, undef)]) ⟨e6, e82, e85, e86, e88, trivial⟩]
       clear hoff hrel e6 e82 e85 e86 e88
       refine st_skip_u rfl (st_skip rfl (st (v := (B false)) (rv_pick_f rfl rfl) (sm (B false) rfl (st_skip rfl (st_skip rfl (st (v := (B false)) (rv_pick_f rfl rfl) (sa (B false) rfl (w_end (q_then (c_ret ?_))))))))))
       obtain rfl := sj h
       exact fin_ret (v := (B false)) (results_ok Try.results6 (res_tmp (v := (B false)) rfl res_nil) rfl) ⟨rfl, rfl⟩ (H.sel' [] rfl rfl)

end Go.Vs
