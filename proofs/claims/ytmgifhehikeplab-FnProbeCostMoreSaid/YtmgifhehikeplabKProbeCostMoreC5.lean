/- The functions compute what their models say. -/
import Derived.Test.YtmgifhehikeplabKProbeCostMoreC4
set_option linter.unusedVariables false
set_option linter.unusedSimpArgs false
set_option maxRecDepth 20000
namespace Go.Vs
open Go Go.Proofs
attribute [local irreducible] Code.wp Code.wpIn wpList wpListIn wpQuiet Calls CallsIn

theorem c_spec_ProbeCost {Bj : List (List Int)} {Ap : List (Int × (List Int) × Int)} {Gb : List Int} {Gc : Int} {Bm : Option Addr} {Bn : Nat} {Aq : Option Addr} {Ar : Nat} {Gd : Option Addr} {Ge : Nat} {r : Int} (h : M.spec_ProbeCost Bj Ap Gb Gc = some r) :
    Cal2 Try.prog 23 [(Sl Bm Bj Bn), (Sl Aq Ap Ar), (Sl Gd Gb Ge), (I Gc)] [Ch.ro 0 (Sl Bm Bj Bn) Bj, Ch.ro 0 (Sl Aq Ap Ar) Ap, Ch.ro 0 (Sl Gd Gb Ge) Gb] (fun n0 v L => v = (I r) ∧ L = []) := by
 refine cal2 (n := 51) Try.func23 rfl rfl rfl rfl ?_
 intro S0 σ0 n0 hn0 H
 unfold M.spec_ProbeCost at h
 refine c_seq (rg (st (v := (I 0)) (rv_assign rfl) (w_end (q_then (c_seq (c_seq ?_))))))
 obtain ⟨o1, hj, h'⟩ := bind_some h
 clear h
 refine c_cut (fun e a w => e = .normal ∧ ∃ (ρ : Nat → Value) (σ : St), a = fr 51 (updL ρ [(0, (Sl Bm Bj Bn)), (1, (Sl Aq Ap Ar)), (2, (Sl Gd Gb Ge)), (3, (I Gc)), (25, (B o1))]) ∧ w = σ.w ∧ Hp S0 σ0 σ [Ch.ro 0 (Sl Bm Bj Bn) Bj, Ch.ro 0 (Sl Aq Ap Ar) Ap, Ch.ro 0 (Sl Gd Gb Ge) Gb]) ?_ ?_
 ·clear h'
  rename _ = some o1 => h
  refine rg (st (v := (Sl Bm Bj Bn)) (rv_move rfl) ?_)
  obtain ⟨r2, hx3, h'⟩ := bind_some h
  clear h
  have h := h'; clear h'
  have hc4 := c_spec_validCentres (Au := Bm) (Av := Bn) hx3
  refine st_call (cx_call hc4 (ent_f hc4.fn rfl) hn0 (H.sel' [0, 0, 1, 2] rfl rfl : Hp S0 σ0 _ ([_] ++ _))) wn ?_
  rintro _ σ5 ⟨_, ⟨rfl, rfl⟩, H, -⟩
  replace H : Hp _ _ _ [_, _, _] := H
  refine st (v := (B (!r2))) (rv_not rfl) (st (v := (B (!r2))) (rv_move rfl) ?_)
  rcases Bool.eq_false_or_eq_true (!r2) with hb6 | hb6
  ·replace h := bif_t hb6 h
   refine st_skip (congrArg some hb6) (st_skip (congrArg some hb6) (st_skip (congrArg some hb6) (st_skip (congrArg some hb6) (st (v := (B true)) (rv_pick_t (congrArg B hb6) rfl) (st (v := (B true)) (rv_move rfl) (st_skip rfl (st_skip rfl (st_skip rfl (st (v := (B true)) (rv_pick_t rfl rfl) (w_end ?_))))))))))
   obtain rfl := Option.some.inj h
   exact ⟨rfl, _, σ5, fr_join ⟨rfl, rfl, rfl, rfl, rfl, trivial⟩, rfl, H.sel' [0, 1, 2] rfl rfl⟩
  ·replace h := bif_f hb6 h
   refine st_g (v := (Sl Aq Ap Ar)) (congrArg some hb6) (rv_move rfl) (st_g (v := (Sl Gd Gb Ge)) (congrArg some hb6) (rv_move rfl) ?_)
   obtain ⟨r7, hx8, h'⟩ := bind_some h
   clear h
   have h := h'; clear h'
   have hc9 := c_spec_validQuery (Au := Aq) (Av := Ar) (Gd := Gd) (Ge := Ge) hx8
   refine st_call (cx_call hc9 (ent_f hc9.fn rfl) hn0 (H.sel' [1, 2, 0, 1, 2] rfl rfl : Hp S0 σ0 _ ([_, _] ++ _))) (wanted_yes rfl (by exact (congrArg some hb6))) ?_
   rintro _ σ10 ⟨_, ⟨rfl, rfl⟩, H, -⟩
   replace H : Hp _ _ _ [_, _, _] := H
   refine st_g (v := (B (!r7))) (congrArg some hb6) (rv_not rfl) (st (v := (B (!r7))) (rv_pick_f (congrArg B hb6) rfl) (st (v := (B (!r7))) (rv_move rfl) ?_))
   rcases Bool.eq_false_or_eq_true (!r7) with hb11 | hb11
   ·replace h := bif_t hb11 h
    refine st_skip (congrArg some hb11) (st_skip (congrArg some hb11) (st_skip (congrArg some hb11) (st (v := (B true)) (rv_pick_t (congrArg B hb11) rfl) (w_end ?_))))
    obtain rfl := Option.some.inj h
    exact ⟨rfl, _, σ10, fr_join ⟨rfl, rfl, rfl, rfl, rfl, trivial⟩, rfl, H.sel' [0, 1, 2] rfl rfl⟩
   ·replace h := bif_f hb11 h
    refine st_g (v := (I Gc)) (congrArg some hb11) (rv_move rfl) ?_
    obtain ⟨r12, hx13, h'⟩ := bind_some h
    clear h
    have h := h'; clear h'
    have hc14 := c_spec_inRange hx13
    refine st_call (cx_call hc14 (ent_f hc14.fn rfl) hn0 (H.sel' [0, 1, 2] rfl rfl : Hp S0 σ0 _ ([] ++ _))) (wanted_yes rfl (by exact (congrArg some hb11))) ?_
    rintro _ σ15 ⟨_, ⟨rfl, rfl⟩, H, -⟩
    replace H : Hp _ _ _ [_, _, _] := H
    refine st_g (v := (B (!r12))) (congrArg some hb11) (rv_not rfl) (st (v := (B (!r12))) (rv_pick_f (congrArg B hb11) rfl) (w_end ?_))
    obtain rfl := Option.some.inj h
    exact ⟨rfl, _, σ15, fr_join ⟨rfl, rfl, rfl, rfl, rfl, trivial⟩, rfl, H.sel' [0, 1, 2] rfl rfl⟩
 ·clear hj
  have h := h'
  clear h' H
  rintro e a w ⟨rfl, ρ, σ16, rfl, rfl, H⟩
  refine q_then ?_
  refine cd_cond o1 rfl (fun hb17 => ?_) (fun hb17 => ?_)
  ·replace h := bif_t hb17 h
   refine c_seq (rg (st (v := (I (-1))) (rv_assign rfl) (w_end (q_then (c_ret (q_then_r ?_))))))
   obtain rfl := Option.some.inj h
   exact fin_ret (v := (I (-1))) (results_ok Try.results23 (res_tmp (v := (I (-1))) rfl res_nil) rfl) ⟨rfl, rfl⟩ (H.sel' [] rfl rfl)
  ·replace h := bif_f hb17 h
   refine c_skip (q_then (c_seq (rg (st (v := (Sl Bm Bj Bn)) (rv_move rfl) (st (v := (I (Bj.length : Int))) (rv_len Try.underlying23 rfl) (st (v := (I (Bj.length : Int))) (rv_assign rfl) (w_end (q_then (c_seq (rg (st (v := (Sl Bm Bj Bn)) (rv_move rfl) ?_)))))))))))
   refine st (v := (Sl Gd Gb Ge)) (rv_move rfl) (st (v := (I Gc)) (rv_move rfl) ?_)
   obtain ⟨r18, hx19, h'⟩ := bind_some h
   clear h
   have h := h'; clear h'
   have hc20 := c_spec_probes (Bm := Bm) (Bn := Bn) (Bo := Gd) (Bp := Ge) hx19
   refine st_call (cx_call hc20 (ent_f hc20.fn rfl) hn0 (H.sel' [0, 2, 0, 1, 2] rfl rfl : Hp S0 σ0 _ ([_, _] ++ _))) wn ?_
   rintro _ σ23 ⟨_, ⟨a21, c22, rfl, rfl⟩, H, -⟩
   replace H : Hp _ _ _ [_, _, _, _] := H
   refine st (v := (Sl a21 r18 c22)) (rv_assign rfl) (w_end (q_then (c_seq (c_seq (rg (st (v := (I 0)) (rv_assign rfl) (w_end (q_then ?_))))))))
   obtain ⟨o24, hj, h'⟩ := bind_some h
   clear h
   refine c_cut (fun e a w => e = .normal ∧ ∃ (ρ : Nat → Value) (σ : St), a = fr 51 (updL ρ [(9, (I o24))]) ∧ w = σ.w ∧ Hp S0 σ0 σ []) ?_ ?_
   ·clear h'
    rename _ = some o24 => h
    refine c_blk (wp_loopM _ h (fun s25 a w => ∃ (ρ : Nat → Value) (σ : St), a = fr 51 (updL ρ [(0, (Sl Bm Bj Bn)), (1, (Sl Aq Ap Ar)), (9, (I s25.1)), (10, (Sl a21 r18 c22)), (11, (I s25.2))]) ∧ w = σ.w ∧ Hp S0 σ0 σ [Ch.ro 0 (Sl Bm Bj Bn) Bj, Ch.ro 0 (Sl Aq Ap Ar) Ap, Ch.own n0 n0 (Sl a21 r18 c22) r18]) ⟨_, σ23, fr_join ⟨rfl, rfl, rfl, rfl, rfl, trivial⟩, rfl, H.sel' [1, 2, 0] rfl rfl⟩ ?_)
    clear h H
    rintro s25 a w o ⟨ρ, σ26, rfl, rfl, H⟩ h hres
    refine c_seq (c_seq (rg (st (v := (I s25.2)) (rv_move rfl) (st (v := (Sl Aq Ap Ar)) (rv_move rfl) (st (v := (I (Ap.length : Int))) (rv_len Try.underlying24 rfl) (st (v := (B (decide (s25.2 < (Ap.length : Int))))) (rv_lss (a := s25.2) (b := (Ap.length : Int)) rfl rfl) (w_end (q_then ?_))))))))
    refine cd_cond (decide (s25.2 < (Ap.length : Int))) rfl (fun hb27 => ?_) (fun hb27 => ?_)
    ·replace h := bif_t hb27 h
     refine c_skip (q_then (c_seq (c_blk (rg (st (v := (I s25.1)) (rv_move rfl) (st (v := (Sl a21 r18 c22)) (rv_move rfl) (st (v := (Sl Bm Bj Bn)) (rv_move rfl) (st (v := (Sl Aq Ap Ar)) (rv_move rfl) (st (v := (I s25.2)) (rv_move rfl) ?_)))))))))
     obtain ⟨x28, hx29, h'⟩ := bind_some h
     clear h
     have h := h'; clear h'
     obtain ⟨b31, o32, hi30, -⟩ := (H.ro 1 rfl).ix hx29
     refine st (v := (pt b31 o32)) (rv_ix Try.underlying24 ti44 rfl rfl hi30) (st (v := (pt b31 (o32 + 1))) (rv_fieldAddr (off := 1) (ft := 29) Try.underlying44 rfl ti29 rfl rfl) ?_)
     obtain ⟨v36, hc37, hR35⟩ := ((H.ro 1 rfl).at hx29 hi30).snd.fst.slice
     obtain ⟨a33, c34, rfl⟩ := hR35.isSl
     replace H := H.add (d := Ch.ro 0 (Sl a33 x28.2.1 c34) x28.2.1) hR35 (fun _ h => h)
     clear hR35
     refine st (v := (Sl a33 x28.2.1 c34)) (rv_load1 Try.underlying29 rfl rfl hc37) ?_
     obtain ⟨r38, hx39, h'⟩ := bind_some h
     clear h
     have h := h'; clear h'
     have hc40 := c_spec_centreOf (Bm := Bm) (Bn := Bn) (Bo := a33) (Bp := c34) hx39
     refine st_call (cx_call hc40 (ent_f hc40.fn rfl) hn0 (H.sel' [1, 0, 0, 1, 2, 3] rfl rfl : Hp S0 σ0 _ ([_, _] ++ _))) wn ?_
     rintro _ σ41 ⟨_, ⟨rfl, rfl⟩, H, -⟩
     replace H : Hp _ _ _ [_, _, _, _] := H
     obtain ⟨r42, hx43, h'⟩ := bind_some h
     clear h
     have h := h'; clear h'
     have hc44 := c_spec_isIn (Au := a21) (Av := c22) hx43
     have hle := Nat.le_trans hn0 H.size
     refine st_call (cx_lend (Loan.lend Loan.nil) hc44 (ent_f hc44.fn rfl) (show Hp S0 σ0 _ ([Ch.own n0 n0 (Sl a21 r18 c22) r18] ++ ([] ++ [Ch.ro 0 (Sl a33 x28.2.1 c34) x28.2.1, Ch.ro 0 (Sl Bm Bj Bn) Bj, Ch.ro 0 (Sl Aq Ap Ar) Ap])) from (H.sel' [3, 0, 1, 2] rfl rfl)) (by rintro _ _ _ ⟨rfl, rfl⟩; exact trivial)) wn ?_
     rintro _ σ45 ⟨_, ⟨rfl, rfl⟩, H, -, -⟩
     replace H : Hp _ _ _ [_, _, _, _] := H
     clear hle
     replace H : Hp _ _ _ [_, _, _, _] := H
     obtain ⟨r46, hx47, h'⟩ := bind_some h
     clear h
     have h := h'; clear h'
     have hc48 := c_spec_toInt hx47
     refine st_call (cx_call hc48 (ent_f hc48.fn rfl) hn0 (H.sel' [0, 1, 2, 3] rfl rfl : Hp S0 σ0 _ ([] ++ _))) wn ?_
     rintro _ σ49 ⟨_, ⟨rfl, rfl⟩, H, -⟩
     replace H : Hp _ _ _ [_, _, _, _] := H
     refine st (v := (I (w64 (s25.1 + r46)))) (rv_add (a := s25.1) (b := r46) rfl rfl) (st (v := (I (w64 (s25.1 + r46)))) (rv_assign rfl) (w_end (q_blk (q_then (rg (st (v := (I s25.2)) (rv_move rfl) (st (v := (I (w64 (s25.2 + 1)))) (rv_add (a := s25.2) (b := 1) rfl rfl) (st (v := (I (w64 (s25.2 + 1)))) (rv_assign rfl) (w_end (q_then ?_))))))))))
     obtain rfl := Option.some.inj h
     exact ⟨_, rfl, _, σ49, fr_join ⟨rfl, rfl, rfl, rfl, rfl, trivial⟩, rfl, H.sel' [2, 3, 0] rfl rfl⟩
    ·replace h := bif_f hb27 h
     refine c_exit (q_then_x (q_then_x (q_blk_hit ?_)))
     obtain rfl := Option.some.inj h
     obtain rfl := hres _ rfl
     exact ⟨rfl, _, σ26, fr_join ⟨rfl, trivial⟩, rfl, H.sel' [] rfl rfl⟩
   ·clear hj
    have h := h'
    clear h' H
    rintro e a w ⟨rfl, ρ, σ50, rfl, rfl, H⟩
    refine q_then (c_seq (rg (st (v := (I o24)) (rv_move rfl) (st (v := (I o24)) (rv_assign rfl) (w_end (q_then (c_ret ?_)))))))
    obtain rfl := Option.some.inj h
    exact fin_ret (v := (I o24)) (results_ok Try.results23 (res_tmp (v := (I o24)) rfl res_nil) rfl) ⟨rfl, rfl⟩ (H.sel' [] rfl rfl)

theorem c_laws_FnProbeCostMore {Aa : List UInt8} {Ac : Option Addr} {Ad : Nat} {r : Bool} (h : M.laws_FnProbeCostMore Aa = some r) :
    Cal2 Try.prog 10 [(Sl Ac Aa Ad)] [Ch.ro 0 (Sl Ac Aa Ad) Aa] (fun n0 v L => v = (B r) ∧ L = []) := by
 refine cal2 (n := 65) Try.func10 rfl rfl rfl rfl ?_
 intro S0 σ0 n0 hn0 H
 unfold M.laws_FnProbeCostMore at h
 refine c_seq (rg (st (v := (B false)) (rv_assign rfl) (w_end (q_then (c_seq (c_seq (rg (st (v := (Sl Ac Aa Ad)) (rv_move rfl) (st (v := (I (Aa.length : Int))) (rv_len Try.underlying22 rfl) (st (v := (B (decide (1048576 < (Aa.length : Int))))) (rv_gtr (a := (Aa.length : Int)) (b := 1048576) rfl rfl) (w_end ?_)))))))))))
 refine q_then ?_
 refine cd_cond (decide (1048576 < (Aa.length : Int))) rfl (fun hb1 => ?_) (fun hb1 => ?_)
 ·replace h := bif_t hb1 h
  refine c_seq (rg (st (v := (B true)) (rv_assign rfl) (w_end (q_then (c_ret (q_then_r ?_))))))
  obtain rfl := Option.some.inj h
  exact fin_ret (v := (B true)) (results_ok Try.results10 (res_tmp (v := (B true)) rfl res_nil) rfl) ⟨rfl, rfl⟩ (H.sel' [] rfl rfl)
 ·replace h := bif_f hb1 h
  refine c_skip (q_then (c_seq (rg (st (v := (Sl Ac Aa Ad)) (rv_move rfl) ?_))))
  obtain ⟨r2, hx3, h'⟩ := bind_some h
  clear h
  have h := h'; clear h'
  have hc4 := c_spec_DrawProbeCost (Ac := Ac) (Ad := Ad) hx3
  refine st_call (cx_call hc4 (ent_f hc4.fn rfl) hn0 (H.sel' [0, 0] rfl rfl : Hp S0 σ0 _ ([_] ++ _))) wn ?_
  rintro _ σ11 ⟨_, ⟨a5, c6, a7, c8, a9, c10, rfl, rfl⟩, H, -⟩
  replace H : Hp _ _ _ [_, _, _, _] := H
  refine st (v := (.tuple #[(Sl a5 r2.1 c6), (Sl a7 r2.2.1 c8), (Sl a9 r2.2.2.1 c10), (I r2.2.2.2)])) (rv_move rfl) (st (v := (Sl a5 r2.1 c6)) (rv_extract rfl rfl) (st (v := (Sl a7 r2.2.1 c8)) (rv_extract rfl rfl) (st (v := (Sl a9 r2.2.2.1 c10)) (rv_extract rfl rfl) (st (v := (I r2.2.2.2)) (rv_extract rfl rfl) (st (v := (Sl a5 r2.1 c6)) (rv_assign rfl) (st (v := (Sl a7 r2.2.1 c8)) (rv_assign rfl) (st (v := (Sl a9 r2.2.2.1 c10)) (rv_assign rfl) (st (v := (I r2.2.2.2)) (rv_assign rfl) (w_end (q_then (c_seq ?_)))))))))))
  refine rg (st (v := (Sl a5 r2.1 c6)) (rv_move rfl) (st (v := (Sl a7 r2.2.1 c8)) (rv_move rfl) (st (v := (Sl a9 r2.2.2.1 c10)) (rv_move rfl) (st (v := (I r2.2.2.2)) (rv_move rfl) ?_))))
  obtain ⟨r12, hx13, h'⟩ := bind_some h
  clear h
  have h := h'; clear h'
  have hc14 := c_impl_ProbeCost (Bm := a5) (Bn := c6) (Aq := a7) (Ar := c8) (Gd := a9) (Ge := c10) hx13
  have hle := Nat.le_trans hn0 H.size
  refine st_call (cx_lend (Loan.lend (Loan.lend (Loan.lend Loan.nil))) hc14 (ent_f hc14.fn rfl) (show Hp S0 σ0 _ ([Ch.own n0 n0 (Sl a5 r2.1 c6) r2.1, Ch.own n0 n0 (Sl a7 r2.2.1 c8) r2.2.1, Ch.own n0 n0 (Sl a9 r2.2.2.1 c10) r2.2.2.1] ++ ([] ++ [Ch.ro 0 (Sl Ac Aa Ad) Aa])) from (H.sel' [0, 1, 2, 3] rfl rfl)) (by rintro _ _ _ ⟨rfl, rfl⟩; exact trivial)) wn ?_
  rintro _ σ15 ⟨_, ⟨rfl, rfl⟩, H, -, -⟩
  replace H : Hp _ _ _ [_, _, _, _] := H
  clear hle
  replace H : Hp _ _ _ [_, _, _, _] := H
  refine st (v := (I r12)) (rv_assign rfl) (w_end (q_then (c_seq (c_seq ?_))))
  obtain ⟨o16, hj, h'⟩ := bind_some h
  clear h
  refine c_cut (fun e a w => e = .normal ∧ ∃ (ρ : Nat → Value) (σ : St), a = fr 65 (updL ρ [(3, (Sl a5 r2.1 c6)), (4, (Sl a7 r2.2.1 c8)), (5, (Sl a9 r2.2.2.1 c10)), (6, (I r2.2.2.2)), (7, (I r12)), (37, (B o16))]) ∧ w = σ.w ∧ Hp S0 σ0 σ [Ch.own n0 n0 (Sl a5 r2.1 c6) r2.1, Ch.own n0 n0 (Sl a7 r2.2.1 c8) r2.2.1, Ch.own n0 n0 (Sl a9 r2.2.2.1 c10) r2.2.2.1]) ?_ ?_
  ·clear h'
   rename _ = some o16 => h
   refine rg (st (v := (I r12)) (rv_move rfl) (st (v := (Sl a5 r2.1 c6)) (rv_move rfl) (st (v := (Sl a7 r2.2.1 c8)) (rv_move rfl) (st (v := (Sl a9 r2.2.2.1 c10)) (rv_move rfl) (st (v := (I r2.2.2.2)) (rv_move rfl) ?_)))))
   obtain ⟨r17, hx18, h'⟩ := bind_some h
   clear h
   have h := h'; clear h'
   have hc19 := c_spec_ProbeCost (Bm := a5) (Bn := c6) (Aq := a7) (Ar := c8) (Gd := a9) (Ge := c10) hx18
   have hle := Nat.le_trans hn0 H.size
   refine st_call (cx_lend (Loan.lend (Loan.lend (Loan.lend Loan.nil))) hc19 (ent_f hc19.fn rfl) (show Hp S0 σ0 _ ([Ch.own n0 n0 (Sl a5 r2.1 c6) r2.1, Ch.own n0 n0 (Sl a7 r2.2.1 c8) r2.2.1, Ch.own n0 n0 (Sl a9 r2.2.2.1 c10) r2.2.2.1] ++ ([] ++ [Ch.ro 0 (Sl Ac Aa Ad) Aa])) from (H.sel' [0, 1, 2, 3] rfl rfl)) (by rintro _ _ _ ⟨rfl, rfl⟩; exact trivial)) wn ?_
   rintro _ σ20 ⟨_, ⟨rfl, rfl⟩, H, -, -⟩
   replace H : Hp _ _ _ [_, _, _, _] := H
   clear hle
   replace H : Hp _ _ _ [_, _, _, _] := H
   refine st (v := (B (r12 != r17))) (rv_neq (a := r12) (b := r17) rfl rfl) (st (v := (B (r12 != r17))) (rv_move rfl) ?_)
   rcases Bool.eq_false_or_eq_true (r12 != r17) with hb21 | hb21
   ·replace h := bif_t hb21 h
    refine st_skip (congrArg some hb21) (st_skip (congrArg some hb21) (st (v := (B true)) (rv_pick_t (congrArg B hb21) rfl) (st (v := (B true)) (rv_move rfl) (st_skip rfl (st_skip rfl (st (v := (B true)) (rv_pick_t rfl rfl) (w_end ?_)))))))
    obtain rfl := Option.some.inj h
    exact ⟨rfl, _, σ20, fr_join ⟨rfl, rfl, rfl, rfl, rfl, rfl, trivial⟩, rfl, H.sel' [0, 1, 2] rfl rfl⟩
   ·replace h := bif_f hb21 h
    refine st_g (v := (I r12)) (congrArg some hb21) (rv_move rfl) (st_g (v := (B (decide (r12 < 0)))) (congrArg some hb21) (rv_lss (a := r12) (b := 0) rfl rfl) (st (v := (B (decide (r12 < 0)))) (rv_pick_f (congrArg B hb21) rfl) (st (v := (B (decide (r12 < 0)))) (rv_move rfl) ?_)))
    rcases Bool.eq_false_or_eq_true (decide (r12 < 0)) with hb22 | hb22
    ·replace h := bif_t hb22 h
     refine st_skip (congrArg some hb22) (st_skip (congrArg some hb22) (st (v := (B true)) (rv_pick_t (congrArg B hb22) rfl) (w_end ?_)))
     obtain rfl := Option.some.inj h
     exact ⟨rfl, _, σ20, fr_join ⟨rfl, rfl, rfl, rfl, rfl, rfl, trivial⟩, rfl, H.sel' [0, 1, 2] rfl rfl⟩
    ·replace h := bif_f hb22 h
     refine st_g (v := (I r2.2.2.2)) (congrArg some hb22) (rv_move rfl) (st_g (v := (B (r2.2.2.2 == 4))) (congrArg some hb22) (rv_eql (a := r2.2.2.2) (b := 4) rfl rfl) (st (v := (B (r2.2.2.2 == 4))) (rv_pick_f (congrArg B hb22) rfl) (w_end ?_)))
     obtain rfl := Option.some.inj h
     exact ⟨rfl, _, σ20, fr_join ⟨rfl, rfl, rfl, rfl, rfl, rfl, trivial⟩, rfl, H.sel' [0, 1, 2] rfl rfl⟩
  ·clear hj
   have h := h'
   clear h' H
   rintro e a w ⟨rfl, ρ, σ23, rfl, rfl, H⟩
   refine q_then ?_
   refine cd_cond o16 rfl (fun hb24 => ?_) (fun hb24 => ?_)
   ·replace h := bif_t hb24 h
    refine c_seq (rg (st (v := (I r12)) (rv_move rfl) (st (v := (Sl a5 r2.1 c6)) (rv_move rfl) (st (v := (Sl a7 r2.2.1 c8)) (rv_move rfl) (st (v := (Sl a9 r2.2.2.1 c10)) (rv_move rfl) (st (v := (I r2.2.2.2)) (rv_move rfl) ?_))))))
    obtain ⟨σ25, hw26, H, -⟩ := H.pub 0 rfl (Nat.le_refl _)
    rw [← hw26]; clear hw26
    obtain ⟨σ27, hw28, H, -⟩ := H.pub 1 rfl (Nat.le_refl _)
    rw [← hw28]; clear hw28
    obtain ⟨σ29, hw30, H, -⟩ := H.pub 2 rfl (Nat.le_refl _)
    rw [← hw30]; clear hw30
    replace H := H.roLow 2 0 rfl (Nat.zero_le _)
    replace H := H.roLow 2 0 rfl (Nat.zero_le _)
    replace H := H.roLow 2 0 rfl (Nat.zero_le _)
    obtain ⟨r31, hx32, h'⟩ := bind_some h
    clear h
    have h := h'; clear h'
    have hc33 := c_spec_ProbeCost (Bm := a5) (Bn := c6) (Aq := a7) (Ar := c8) (Gd := a9) (Ge := c10) hx32
    refine st_call (cx_call hc33 (ent_f hc33.fn rfl) hn0 (H.sel' [2, 1, 0, 0, 1, 2, 3, 4, 5] rfl rfl : Hp S0 σ0 _ ([_, _, _] ++ _))) wn ?_
    rintro _ σ34 ⟨_, ⟨rfl, rfl⟩, H, -⟩
    replace H : Hp _ _ _ [_, _, _, _, _, _] := H
    refine st (v := (B (r12 == r31))) (rv_eql (a := r12) (b := r31) rfl rfl) (st (v := (B (r12 == r31))) (rv_assign rfl) (w_end (q_then (c_ret (q_then_r ?_)))))
    obtain rfl := Option.some.inj h
    exact fin_ret (v := (B (r12 == r31))) (results_ok Try.results10 (res_tmp (v := (B (r12 == r31))) rfl res_nil) rfl) ⟨rfl, rfl⟩ (H.sel' [] rfl rfl)
   ·replace h := bif_f hb24 h
    refine c_skip (q_then (c_seq (rg (st (v := (Sl a5 r2.1 c6)) (rv_move rfl) (st (v := (Sl a7 r2.2.1 c8)) (rv_move rfl) (st (v := (Sl a9 r2.2.2.1 c10)) (rv_move rfl) (st (v := (I r2.2.2.2)) (rv_move rfl) (st (v := (I (w64 (r2.2.2.2 + 1)))) (rv_add (a := r2.2.2.2) (b := 1) rfl rfl) ?_))))))))
    obtain ⟨r35, hx36, h'⟩ := bind_some h
    clear h
    have h := h'; clear h'
    have hc37 := c_impl_ProbeCost (Bm := a5) (Bn := c6) (Aq := a7) (Ar := c8) (Gd := a9) (Ge := c10) hx36
    have hle := Nat.le_trans hn0 H.size
    refine st_call (cx_lend (Loan.lend (Loan.lend (Loan.lend Loan.nil))) hc37 (ent_f hc37.fn rfl) (show Hp S0 σ0 _ ([Ch.own n0 n0 (Sl a5 r2.1 c6) r2.1, Ch.own n0 n0 (Sl a7 r2.2.1 c8) r2.2.1, Ch.own n0 n0 (Sl a9 r2.2.2.1 c10) r2.2.2.1] ++ ([] ++ [])) from (H.sel' [0, 1, 2] rfl rfl)) (by rintro _ _ _ ⟨rfl, rfl⟩; exact trivial)) wn ?_
    rintro _ σ38 ⟨_, ⟨rfl, rfl⟩, H, -, -⟩
    replace H : Hp _ _ _ [_, _, _] := H
    clear hle
    replace H : Hp _ _ _ [_, _, _] := H
    refine st (v := (I r12)) (rv_move rfl) (st (v := (B (decide (r12 ≤ r35)))) (rv_geq (a := r35) (b := r12) rfl rfl) (st (v := (B (decide (r12 ≤ r35)))) (rv_move rfl) ?_))
    rcases Bool.eq_false_or_eq_true (decide (r12 ≤ r35)) with hb39 | hb39
    ·replace h := bif_t hb39 h
     refine st_g (v := (Sl a5 r2.1 c6)) (congrArg some hb39) (rv_move rfl) (st_g (v := (Sl a7 r2.2.1 c8)) (congrArg some hb39) (rv_move rfl) (st_g (v := (Sl a9 r2.2.2.1 c10)) (congrArg some hb39) (rv_move rfl) ?_))
     obtain ⟨σ40, hw41, H, -⟩ := H.pub 2 rfl (Nat.le_refl _)
     rw [← hw41]; clear hw41
     replace H := H.roLow 0 0 rfl (Nat.zero_le _)
     obtain ⟨r42, hx43, h'⟩ := bind_some h
     clear h
     have h := h'; clear h'
     have hc44 := c_impl_ProbeCost (Bm := a5) (Bn := c6) (Aq := a7) (Ar := c8) (Gd := a9) (Ge := c10) hx43
     have hle := Nat.le_trans hn0 H.size
     refine st_call (cx_lend (Loan.lend (Loan.lend (Loan.same Loan.nil))) hc44 (ent_f hc44.fn rfl) (show Hp S0 σ0 _ ([Ch.own n0 n0 (Sl a5 r2.1 c6) r2.1, Ch.own n0 n0 (Sl a7 r2.2.1 c8) r2.2.1] ++ ([Ch.ro 0 (Sl a9 r2.2.2.1 c10) r2.2.2.1] ++ [Ch.ro 0 (Sl a9 r2.2.2.1 c10) r2.2.2.1, Ch.ro n0 (Sl a9 r2.2.2.1 c10) r2.2.2.1])) from (H.sel' [2, 3, 0, 0, 1] rfl rfl)) (by rintro _ _ _ ⟨rfl, rfl⟩; exact trivial)) (wanted_yes rfl (by exact (congrArg some hb39))) ?_
     rintro _ σ45 ⟨_, ⟨rfl, rfl⟩, H, -, -⟩
     replace H : Hp _ _ _ [_, _, _, _] := H
     clear hle
     replace H : Hp _ _ _ [_, _, _, _] := H
     refine st_g (v := (Sl a5 r2.1 c6)) (congrArg some hb39) (rv_move rfl) (st_g (v := (I (r2.1.length : Int))) (congrArg some hb39) (rv_len Try.underlying23 rfl) (st_g (v := (Sl a7 r2.2.1 c8)) (congrArg some hb39) (rv_move rfl) (st_g (v := (I (r2.2.1.length : Int))) (congrArg some hb39) (rv_len Try.underlying24 rfl) (st_g (v := (I (w64 ((r2.1.length : Int) + (r2.2.1.length : Int))))) (congrArg some hb39) (rv_add (a := (r2.1.length : Int)) (b := (r2.2.1.length : Int)) rfl rfl) (st_g (v := (B (r42 == (w64 ((r2.1.length : Int) + (r2.2.1.length : Int)))))) (congrArg some hb39) (rv_eql (a := r42) (b := (w64 ((r2.1.length : Int) + (r2.2.1.length : Int)))) rfl rfl) (st (v := (B (r42 == (w64 ((r2.1.length : Int) + (r2.2.1.length : Int)))))) (rv_pick_t (congrArg B hb39) rfl) (st (v := (B (r42 == (w64 ((r2.1.length : Int) + (r2.2.1.length : Int)))))) (rv_assign rfl) (w_end (q_then (c_ret ?_))))))))))
     obtain rfl := Option.some.inj h
     exact fin_ret (v := (B (r42 == (w64 ((r2.1.length : Int) + (r2.2.1.length : Int)))))) (results_ok Try.results10 (res_tmp (v := (B (r42 == (w64 ((r2.1.length : Int) + (r2.2.1.length : Int)))))) rfl res_nil) rfl) ⟨rfl, rfl⟩ (H.sel' [] rfl rfl)
    ·replace h := bif_f hb39 h
     refine st_skip (congrArg some hb39) (st_skip (congrArg some hb39) (st_skip (congrArg some hb39) (st_skip (congrArg some hb39) (st_skip (congrArg some hb39) (st_skip (congrArg some hb39) (st_skip (congrArg some hb39) (st_skip (congrArg some hb39) (st_skip (congrArg some hb39) (st_skip (congrArg some hb39) (st (v := (B false)) (rv_pick_f (congrArg B hb39) rfl) (st (v := (B false)) (rv_assign rfl) ?_)))))))))))
     refine w_end (q_then (c_ret ?_))
     obtain rfl := Option.some.inj h
     exact fin_ret (v := (B false)) (results_ok Try.results10 (res_tmp (v := (B false)) rfl res_nil) rfl) ⟨rfl, rfl⟩ (H.sel' [] rfl rfl)

end Go.Vs
