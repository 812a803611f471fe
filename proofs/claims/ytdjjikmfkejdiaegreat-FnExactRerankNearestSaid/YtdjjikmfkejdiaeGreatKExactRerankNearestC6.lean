/- The functions compute what their models say. -/
import Derived.Test.YtdjjikmfkejdiaeGreatKExactRerankNearestC5
set_option linter.unusedVariables false
set_option linter.unusedSimpArgs false
set_option maxRecDepth 20000
namespace Go.Vs
open Go Go.Proofs
attribute [local irreducible] Code.wp Code.wpIn wpList wpListIn wpQuiet Calls CallsIn

theorem c_laws_FnExactRerankNearest {Jd : (List (List Int)) × (List (List Int))} {Je : List (Int × (List Int) × Int)} {Jf : List Int} {Jg : Int} {Jh : Int} {Ji : Option Addr} {Jj : Nat} {Jk : Option Addr} {Jm : Nat} {Jn : Option Addr} {Jo : Nat} {Jp : Option Addr} {Jq : Nat} {r : Bool} (h : M.laws_FnExactRerankNearest Jd Je Jf Jg Jh = some r) :
    Cal2 Tryz.prog 4 [(.agg #[(Sl Ji Jd.1 Jj), (Sl Jk Jd.2 Jm)]), (Sl Jn Je Jo), (Sl Jp Jf Jq), (I Jg), (I Jh)] [Ch.ro 0 (Sl Ji Jd.1 Jj) Jd.1, Ch.ro 0 (Sl Jk Jd.2 Jm) Jd.2, Ch.ro 0 (Sl Jn Je Jo) Je, Ch.ro 0 (Sl Jp Jf Jq) Jf] (fun n0 v L => v = (B r) ∧ L = []) := by
 refine cal2 (n := 123) Tryz.func4 rfl rfl rfl rfl ?_
 intro S0 σ0 n0 hn0 H
 unfold M.laws_FnExactRerankNearest at h
 refine c_seq (rg (st_ex (ex_box (cs := [(Sl Ji Jd.1 Jj), (Sl Jk Jd.2 Jm)]) H hn0 rfl rfl) wn ?_))
 rintro _ σ2 ⟨b1, rfl, H, -⟩
 refine sa (B false) rfl (w_end (q_then (c_seq (c_seq (rg (sm (Sl Jp Jf Jq) rfl (st (v := (I (Jf.length : Int))) (rv_len Tryz.underlying26 rfl) (st (v := (B (decide (1048576 < (Jf.length : Int))))) (rv_gtr (a := (Jf.length : Int)) (b := 1048576) rfl rfl) (w_end (q_then ?_))))))))))
 refine cd_cond (decide (1048576 < (Jf.length : Int))) rfl (fun hb3 => ?_) (fun hb3 => ?_)
 ·replace h := bif_t hb3 h
  refine c_seq (rg (sa (B true) rfl (w_end (q_then (c_ret (q_then_r ?_))))))
  obtain rfl := sj h
  exact fin_ret (v := (B true)) (results_ok Tryz.results4 (res_tmp (v := (B true)) rfl res_nil) rfl) ⟨rfl, rfl⟩ (H.sel' [] rfl rfl)
 ·replace h := bif_f hb3 h
  refine c_skip (q_then (c_seq (rg (sa (I 1048576) rfl (w_end (q_then (c_seq (rg ?_))))))))
  have hc4 := H.cells 0 rfl
  refine st (v := (.agg #[(Sl Ji Jd.1 Jj), (Sl Jk Jd.2 Jm)])) (rv_load (cs := [(Sl Ji Jd.1 Jj), (Sl Jk Jd.2 Jm)]) Tryz.underlying24 rfl ti24 rfl rfl hc4) (sm (I 1048576) rfl ?_)
  revert h; refine br fun r5 hx6 h => ?_
  have hc7 := c_laws_szBook (Af := Ji) (Ag := Jj) (Ah := Jk) (Ai := Jm) hx6
  refine st_call (cx_call hc7 (ent_f hc7.fn rfl) hn0 (H.sel' [1, 2, 0, 1, 2, 3, 4] rfl rfl : Hp S0 σ0 _ ([_, _] ++ _))) wn ?_
  rintro _ σ8 ⟨_, ⟨rfl, rfl⟩, H, -⟩
  replace H : Hp _ _ _ [_, _, _, _, _] := H
  refine sa (I r5) rfl (w_end (q_then (c_seq (c_seq (rg (sm (I r5) rfl (st (v := (B (decide (r5 < 0)))) (rv_lss (a := r5) (b := 0) rfl rfl) (w_end (q_then ?_)))))))))
  refine cd_cond (decide (r5 < 0)) rfl (fun hb9 => ?_) (fun hb9 => ?_)
  ·replace h := bif_t hb9 h
   refine c_seq (rg (sa (B true) rfl (w_end (q_then (c_ret (q_then_r ?_))))))
   obtain rfl := sj h
   exact fin_ret (v := (B true)) (results_ok Tryz.results4 (res_tmp (v := (B true)) rfl res_nil) rfl) ⟨rfl, rfl⟩ (H.sel' [] rfl rfl)
  ·replace h := bif_f hb9 h
   refine c_skip (q_then (c_seq (rg (sm (Sl Jn Je Jo) rfl (sm (I r5) rfl ?_)))))
   revert h; refine br fun r10 hx11 h => ?_
   have hc12 := c_laws_szItemS (Ad := Jn) (Ae := Jo) hx11
   refine st_call (cx_call hc12 (ent_f hc12.fn rfl) hn0 (H.sel' [3, 0, 1, 2, 3, 4] rfl rfl : Hp S0 σ0 _ ([_] ++ _))) wn ?_
   rintro _ σ13 ⟨_, ⟨rfl, rfl⟩, H, -⟩
   replace H : Hp _ _ _ [_, _, _, _, _] := H
   refine sa (I r10) rfl (w_end (q_then (c_seq (c_seq (rg (sm (I r10) rfl (st (v := (B (decide (r10 < 0)))) (rv_lss (a := r10) (b := 0) rfl rfl) (w_end (q_then ?_)))))))))
   refine cd_cond (decide (r10 < 0)) rfl (fun hb14 => ?_) (fun hb14 => ?_)
   ·replace h := bif_t hb14 h
    refine c_seq (rg (sa (B true) rfl (w_end (q_then (c_ret (q_then_r ?_))))))
    obtain rfl := sj h
    exact fin_ret (v := (B true)) (results_ok Tryz.results4 (res_tmp (v := (B true)) rfl res_nil) rfl) ⟨rfl, rfl⟩ (H.sel' [] rfl rfl)
   ·replace h := bif_f hb14 h
    refine c_skip (q_then (c_seq (rg ?_)))
    have hc15 := H.cells 0 rfl
    refine st (v := (.agg #[(Sl Ji Jd.1 Jj), (Sl Jk Jd.2 Jm)])) (rv_load (cs := [(Sl Ji Jd.1 Jj), (Sl Jk Jd.2 Jm)]) Tryz.underlying24 rfl ti24 rfl rfl hc15) ?_
    revert h; refine br fun r16 hx17 h => ?_
    have hc18 := c_laws_toBookD (Af := Ji) (Ag := Jj) (Ah := Jk) (Ai := Jm) hx17
    refine st_call (cx_call hc18 (ent_f hc18.fn rfl) hn0 (H.sel' [1, 2, 0, 1, 2, 3, 4] rfl rfl : Hp S0 σ0 _ ([_, _] ++ _))) wn ?_
    rintro _ σ27 ⟨_, ⟨a19, c20, K21, a23, c24, K25, rfl, rfl, hK22, hK26⟩, H, -⟩
    replace H : Hp _ _ _ [_, _, _, _, _, _, _] := H
    refine sm (Sl Jn Je Jo) rfl ?_
    revert h; refine br fun r28 hx29 h => ?_
    have hc30 := c_laws_toItemS (Ad := Jn) (Ae := Jo) hx29
    refine st_call (cx_call hc30 (ent_f hc30.fn rfl) hn0 (H.sel' [5, 0, 1, 2, 3, 4, 5, 6] rfl rfl : Hp S0 σ0 _ ([_] ++ _))) wn ?_
    rintro _ σ35 ⟨_, ⟨a31, c32, K33, rfl, rfl, hK34⟩, H, -⟩
    replace H : Hp _ _ _ [_, _, _, _, _, _, _, _] := H
    refine sm (Sl Jp Jf Jq) rfl ?_
    revert h; refine br fun r36 hx37 h => ?_
    have hc38 := c_laws_toIntS (Ad := Jp) (Ae := Jq) hx37
    refine st_call (cx_call hc38 (ent_f hc38.fn rfl) hn0 (H.sel' [7, 0, 1, 2, 3, 4, 5, 6, 7] rfl rfl : Hp S0 σ0 _ ([_] ++ _))) wn ?_
    rintro _ σ42 ⟨_, ⟨a39, c40, rfl, rfl, ht41⟩, H, -⟩
    replace H : Hp _ _ _ [_, _, _, _, _, _, _, _, _] := H
    refine sm (I Jg) rfl (sm (I Jh) rfl ?_)
    obtain ⟨σ43, hw44, H, -⟩ := H.pub 0 rfl (Nat.le_refl _)
    rw [← hw44]; clear hw44
    replace H := H.roLow 0 0 rfl (Nat.zero_le _)
    revert h; refine br fun r45 hx46 h => ?_
    have hc47 := c_spec_RerankNearest (Bh := a19) (Bi := c20) (Bj := a23) (Bk := c24) (Cq := a31) (Cr := c32) (Bu := a39) (Bv := c40) hx46
    have hle := Nat.le_trans hn0 H.size
    refine st_call (cx_lend (Loan.lendB hK22.lends (Loan.lendB hK26.lends (Loan.lendB hK34.lends (Loan.same Loan.nil)))) hc47 (ent_f hc47.fn rfl) (show Hp S0 σ0 _ ([Ch.big K21, Ch.big K25, Ch.big K33] ++ ([Ch.ro 0 (Sl a39 r36 c40) r36] ++ [Ch.ro 0 (Sl a39 r36 c40) r36, Ch.ro n0 (Sl a39 r36 c40) r36, Ch.bx n0 b1 0 [(Sl Ji Jd.1 Jj), (Sl Jk Jd.2 Jm)] [] [], Ch.ro 0 (Sl Ji Jd.1 Jj) Jd.1, Ch.ro 0 (Sl Jk Jd.2 Jm) Jd.2, Ch.ro 0 (Sl Jn Je Jo) Je, Ch.ro 0 (Sl Jp Jf Jq) Jf])) from (H.sel' [3, 4, 2, 0, 0, 1, 5, 6, 7, 8, 9] rfl rfl)) (by rintro _ _ _ ⟨_, _, rfl, rfl⟩; exact ⟨Ab.ownSc, trivial⟩)) wn ?_
    rintro _ σ50 ⟨_, ⟨a48, c49, rfl, rfl⟩, H, -, -⟩
    replace H : Hp _ _ _ [_, _, _, _, _, _, _, _, _, _, _] := H
    replace H := H.ownLow 0 n0 n0 rfl hle hle
    clear hle
    replace H : Hp _ _ _ [_, _, _, _, _, _, _, _, _, _, _] := H
    replace H : Hp S0 σ0 σ50 [Ch.own n0 n0 (Sl a48 r45 c49) r45, Ch.bx n0 b1 0 [(Sl Ji Jd.1 Jj), (Sl Jk Jd.2 Jm)] [] [], Ch.ro 0 (Sl Ji Jd.1 Jj) Jd.1, Ch.ro 0 (Sl Jk Jd.2 Jm) Jd.2, Ch.ro 0 (Sl Jn Je Jo) Je, Ch.ro 0 (Sl Jp Jf Jq) Jf] := H.sel' [0, 6, 7, 8, 9, 10] rfl rfl
    refine sa (Sl a48 r45 c49) rfl (w_end (q_then (c_seq (rg ?_))))
    have hc51 := H.cells 1 rfl
    refine st (v := (.agg #[(Sl Ji Jd.1 Jj), (Sl Jk Jd.2 Jm)])) (rv_load (cs := [(Sl Ji Jd.1 Jj), (Sl Jk Jd.2 Jm)]) Tryz.underlying24 rfl ti24 rfl rfl hc51) ?_
    revert h; refine br fun r52 hx53 h => ?_
    have hc54 := c_laws_toBookD (Af := Ji) (Ag := Jj) (Ah := Jk) (Ai := Jm) hx53
    refine st_call (cx_call hc54 (ent_f hc54.fn rfl) hn0 (H.sel' [2, 3, 0, 1, 2, 3, 4, 5] rfl rfl : Hp S0 σ0 _ ([_, _] ++ _))) wn ?_
    rintro _ σ63 ⟨_, ⟨a55, c56, K57, a59, c60, K61, rfl, rfl, hK58, hK62⟩, H, -⟩
    replace H : Hp _ _ _ [_, _, _, _, _, _, _, _] := H
    refine st_ex (ex_alloc (cs := [(.slice none 0 0), (.slice none 0 0)]) H hn0 ti31 rfl) wn ?_
    rintro _ σ65 ⟨b64, rfl, H, -⟩
    refine st_exS (ex_store_box (k := 0) (cs := [(.slice none 0 0), (.slice none 0 0)]) (vs := [(Sl a55 r52.1 c56), (Sl a59 r52.2 c60)]) (cs' := [(Sl a55 r52.1 c56), (Sl a59 r52.2 c60)]) H (i := 0) rfl ti31 rfl rfl rfl rfl rfl (Nat.le_of_ble_eq_true rfl) (by simp [plain]) rfl) wn ?_
    rintro σ66 ⟨H, -⟩
    refine w_end (q_then (c_seq (rg (sm (Sl Jn Je Jo) rfl ?_))))
    revert h; refine br fun r67 hx68 h => ?_
    have hc69 := c_laws_toItemS (Ad := Jn) (Ae := Jo) hx68
    refine st_call (cx_call hc69 (ent_f hc69.fn rfl) hn0 (H.sel' [7, 0, 1, 2, 3, 4, 5, 6, 7, 8] rfl rfl : Hp S0 σ0 _ ([_] ++ _))) wn ?_
    rintro _ σ74 ⟨_, ⟨a70, c71, K72, rfl, rfl, hK73⟩, H, -⟩
    replace H : Hp _ _ _ [_, _, _, _, _, _, _, _, _, _] := H
    refine sa (Sl a70 r67 c71) rfl (w_end (q_then (c_seq (rg (sm (Sl Jp Jf Jq) rfl ?_)))))
    revert h; refine br fun r75 hx76 h => ?_
    have hc77 := c_laws_toIntS (Ad := Jp) (Ae := Jq) hx76
    refine st_call (cx_call hc77 (ent_f hc77.fn rfl) hn0 (H.sel' [9, 0, 1, 2, 3, 4, 5, 6, 7, 8, 9] rfl rfl : Hp S0 σ0 _ ([_] ++ _))) wn ?_
    rintro _ σ81 ⟨_, ⟨a78, c79, rfl, rfl, ht80⟩, H, -⟩
    replace H : Hp _ _ _ [_, _, _, _, _, _, _, _, _, _, _] := H
    refine sa (Sl a78 r75 c79) rfl (w_end (q_then (c_seq (rg ?_))))
    have hc82 := H.cells 2 rfl
    refine st (v := (.agg #[(Sl a55 r52.1 c56), (Sl a59 r52.2 c60)])) (rv_load (cs := [(Sl a55 r52.1 c56), (Sl a59 r52.2 c60)]) Tryz.underlying31 rfl ti31 rfl rfl hc82) (sm (Sl a70 r67 c71) rfl (sm (Sl a78 r75 c79) rfl (sm (I Jg) rfl (sm (I Jh) rfl ?_))))
    revert h; refine br fun r83 hx84 h => ?_
    have hc85 := c_impl_RerankNearest (Bh := a55) (Bi := c56) (Bj := a59) (Bk := c60) (Cq := a70) (Cr := c71) (Bu := a78) (Bv := c79) hx84
    have hle := Nat.le_trans hn0 H.size
    refine st_call (cx_lend (Loan.lendB hK58.lends (Loan.lendB hK62.lends (Loan.lendB hK73.lends (Loan.lend Loan.nil)))) hc85 (ent_f hc85.fn rfl) (show Hp S0 σ0 _ ([Ch.big K57, Ch.big K61, Ch.big K72, Ch.own n0 n0 (Sl a78 r75 c79) r75] ++ ([] ++ [Ch.bx n0 b64 0 [(Sl a55 r52.1 c56), (Sl a59 r52.2 c60)] [] [], Ch.own n0 n0 (Sl a48 r45 c49) r45, Ch.bx n0 b1 0 [(Sl Ji Jd.1 Jj), (Sl Jk Jd.2 Jm)] [] [], Ch.ro 0 (Sl Ji Jd.1 Jj) Jd.1, Ch.ro 0 (Sl Jk Jd.2 Jm) Jd.2, Ch.ro 0 (Sl Jn Je Jo) Je, Ch.ro 0 (Sl Jp Jf Jq) Jf])) from (H.sel' [3, 4, 1, 0, 2, 5, 6, 7, 8, 9, 10] rfl rfl)) (by rintro _ _ _ ⟨_, _, rfl, rfl⟩; exact ⟨Ab.ownSc, trivial⟩)) wn ?_
    rintro _ σ88 ⟨_, ⟨a86, c87, rfl, rfl⟩, H, -, -⟩
    replace H : Hp _ _ _ [_, _, _, _, _, _, _, _, _, _, _, _] := H
    replace H := H.ownLow 0 0 n0 rfl (Nat.le_refl _) hle
    clear hle
    replace H : Hp _ _ _ [_, _, _, _, _, _, _, _, _, _, _, _] := H
    refine sa (Sl a86 r83 c87) rfl (w_end (q_then (c_seq (c_seq (rg (sm (Sl a86 r83 c87) rfl (sm (Sl a48 r45 c49) rfl ?_)))))))
    revert h; refine br fun r89 hx90 h => ?_
    have hc91 := c_laws_eqHitS (Ad := a86) (Ae := c87) (Ak := a48) (Am := c49) hx90
    have hle := Nat.le_trans hn0 H.size
    refine st_call (cx_lend (Loan.lend (Loan.lend Loan.nil)) hc91 (ent_f hc91.fn rfl) (show Hp S0 σ0 _ ([Ch.own 0 n0 (Sl a86 r83 c87) r83, Ch.own n0 n0 (Sl a48 r45 c49) r45] ++ ([] ++ [Ch.big K57, Ch.big K61, Ch.big K72, Ch.own n0 n0 (Sl a78 r75 c79) r75, Ch.bx n0 b64 0 [(Sl a55 r52.1 c56), (Sl a59 r52.2 c60)] [] [], Ch.bx n0 b1 0 [(Sl Ji Jd.1 Jj), (Sl Jk Jd.2 Jm)] [] [], Ch.ro 0 (Sl Ji Jd.1 Jj) Jd.1, Ch.ro 0 (Sl Jk Jd.2 Jm) Jd.2, Ch.ro 0 (Sl Jn Je Jo) Je, Ch.ro 0 (Sl Jp Jf Jq) Jf])) from (H.sel' [0, 6, 1, 2, 3, 4, 5, 7, 8, 9, 10, 11] rfl rfl)) (by rintro _ _ _ ⟨rfl, rfl⟩; exact trivial)) wn ?_
    rintro _ σ92 ⟨_, ⟨rfl, rfl⟩, H, -, -⟩
    replace H : Hp _ _ _ [_, _, _, _, _, _, _, _, _, _, _, _] := H
    clear hle
    replace H : Hp _ _ _ [_, _, _, _, _, _, _, _, _, _, _, _] := H
    refine st (v := (B (!r89))) (rv_not rfl) (w_end (q_then ?_))
    refine cd_cond (!r89) rfl (fun hb93 => ?_) (fun hb93 => ?_)
    ·replace h := bif_t hb93 h
     refine c_seq (rg (sa (B false) rfl (w_end (q_then (c_ret (q_then_r ?_))))))
     obtain rfl := sj h
     exact fin_ret (v := (B false)) (results_ok Tryz.results4 (res_tmp (v := (B false)) rfl res_nil) rfl) ⟨rfl, rfl⟩ (H.sel' [] rfl rfl)
    ·replace h := bif_f hb93 h
     refine c_skip (q_then (c_seq (c_seq ?_)))
     have hc94 := H.cells 6 rfl
     have hc95 := H.cells 7 rfl
     revert h; refine br fun r96 hx97 h => ?_
     have hc98 := c_laws_toBookD (Af := Ji) (Ag := Jj) (Ah := Jk) (Ai := Jm) hx97
     have Hs := H
     refine rg2 (σ := σ92) (Nm := (Option Addr) × (Nat) × (List Ch) × (Option Addr) × (Nat) × (List Ch)) 3 [2] [[false], [true]] [[(0, 0), (1, 1)], [(0, 0)], [(0, 1)]] 1 [fun ((a99, c100, K101, a103, c104, K105) : (Option Addr) × (Nat) × (List Ch) × (Option Addr) × (Nat) × (List Ch)) => fun σm => Hp S0 σ0 σm [Ch.own 0 n0 (Sl a86 r83 c87) r83, Ch.own n0 n0 (Sl a48 r45 c49) r45, Ch.big K57, Ch.big K61, Ch.big K72, Ch.own n0 n0 (Sl a78 r75 c79) r75, Ch.bx n0 b64 0 [(Sl a55 r52.1 c56), (Sl a59 r52.2 c60)] [] [], Ch.bx n0 b1 0 [(Sl Ji Jd.1 Jj), (Sl Jk Jd.2 Jm)] [] [], Ch.ro 0 (Sl Ji Jd.1 Jj) Jd.1, Ch.ro 0 (Sl Jk Jd.2 Jm) Jd.2, Ch.ro 0 (Sl Jn Je Jo) Je, Ch.ro 0 (Sl Jp Jf Jq) Jf] ∧ Md (cov []) σ92 σm, fun ((a99, c100, K101, a103, c104, K105) : (Option Addr) × (Nat) × (List Ch) × (Option Addr) × (Nat) × (List Ch)) => fun σm => Hp S0 σ0 σm [Ch.big K101, Ch.big K105, Ch.own 0 n0 (Sl a86 r83 c87) r83, Ch.own n0 n0 (Sl a48 r45 c49) r45, Ch.big K57, Ch.big K61, Ch.big K72, Ch.own n0 n0 (Sl a78 r75 c79) r75, Ch.bx n0 b64 0 [(Sl a55 r52.1 c56), (Sl a59 r52.2 c60)] [] [], Ch.bx n0 b1 0 [(Sl Ji Jd.1 Jj), (Sl Jk Jd.2 Jm)] [] [], Ch.ro 0 (Sl Ji Jd.1 Jj) Jd.1, Ch.ro 0 (Sl Jk Jd.2 Jm) Jd.2, Ch.ro 0 (Sl Jn Je Jo) Je, Ch.ro 0 (Sl Jp Jf Jq) Jf] ∧ Md (cov []) σ92 σm ∧ Dp 0 (Sl a99 r96.1 c100) r96.1 K101 ∧ Dp 0 (Sl a103 r96.2 c104) r96.2 K105] [fun ((a99, c100, K101, a103, c104, K105) : (Option Addr) × (Nat) × (List Ch) × (Option Addr) × (Nat) × (List Ch)) => (.agg #[(Sl a55 r52.1 c56), (Sl a59 r52.2 c60)]), fun ((a99, c100, K101, a103, c104, K105) : (Option Addr) × (Nat) × (List Ch) × (Option Addr) × (Nat) × (List Ch)) => (.agg #[(Sl Ji Jd.1 Jj), (Sl Jk Jd.2 Jm)]), fun ((a99, c100, K101, a103, c104, K105) : (Option Addr) × (Nat) × (List Ch) × (Option Addr) × (Nat) × (List Ch)) => (.agg #[(Sl a99 r96.1 c100), (Sl a103 r96.2 c104)])] (none, 0, [], none, 0, []) (by kernel_rfl) (by kernel_rfl) ?_ ?_ ?_
     ·intro σm m0
      exact ⟨H.grow (m0.mono fun _ h => h.elim), m0⟩
     ·refine all_cons (by
        refine ⟨?_, ?_⟩
        ·rintro ⟨a99, c100, K101, a103, c104, K105⟩ ρ σm hJ hoff hdep
         have e13 := look_off (N := 123) (hoff 13 rfl) rfl
         obtain ⟨H, m⟩ := id hJ
         have hc94 := H.cells 6 rfl
         exact dp_v (v := (.agg #[(Sl a55 r52.1 c56), (Sl a59 r52.2 c60)])) wn (rv_load (cs := [(Sl a55 r52.1 c56), (Sl a59 r52.2 c60)]) Tryz.underlying31 rfl ti31 e13 rfl hc94) rfl hJ
        refine ⟨?_, ?_⟩
        ·rintro ⟨a99, c100, K101, a103, c104, K105⟩ ρ σm hJ hoff hdep
         have e13 := look_off (N := 123) (hoff 13 rfl) rfl
         obtain ⟨H, m, hK102, hK106⟩ := id hJ
         have hc94 := H.cells 8 rfl
         exact dp_v (v := (.agg #[(Sl a55 r52.1 c56), (Sl a59 r52.2 c60)])) wn (rv_load (cs := [(Sl a55 r52.1 c56), (Sl a59 r52.2 c60)]) Tryz.underlying31 rfl ti31 e13 rfl hc94) rfl hJ
        trivial) ?_
      refine all_cons (by
        refine ⟨?_, ?_⟩
        ·rintro ⟨a99, c100, K101, a103, c104, K105⟩ ρ σm hJ hoff hdep
         have e5 := look_off (N := 123) (hoff 5 rfl) rfl
         obtain ⟨H, m⟩ := id hJ
         have hc95 := H.cells 7 rfl
         exact dp_v (v := (.agg #[(Sl Ji Jd.1 Jj), (Sl Jk Jd.2 Jm)])) wn (rv_load (cs := [(Sl Ji Jd.1 Jj), (Sl Jk Jd.2 Jm)]) Tryz.underlying24 rfl ti24 e5 rfl hc95) rfl hJ
        trivial) ?_
      refine all_cons (by
        refine ⟨?_, ?_⟩
        ·rintro ⟨a99, c100, K101, a103, c104, K105⟩ ρ σm hJ hoff hdep
         have e60 : look 123 ρ 60 = (.agg #[(Sl Ji Jd.1 Jj), (Sl Jk Jd.2 Jm)]) := hdep 1 rfl rfl 60 rfl
         obtain ⟨H, m⟩ := id hJ
         refine dp_cx wn (cx_call hc98 (ent_f hc98.fn (by show [look 123 ρ 60] = _; rw [e60])) hn0 (H.sel' [8, 9, 0, 1, 2, 3, 4, 5, 6, 7, 8, 9, 10, 11] rfl rfl : Hp S0 σ0 _ ([_, _] ++ _))) ?_
         rintro _ σq ⟨_, ⟨a99x, c100x, K101x, a103x, c104x, K105x, rfl, rfl, hK102, hK106⟩, H2, m2⟩
         exact ⟨_, (a99x, c100x, K101x, a103x, c104x, K105x), rfl, rfl, ⟨H2.sel' [0, 1, 2, 3, 4, 5, 6, 7, 8, 9, 10, 11, 12, 13] rfl rfl, m.comp0 (m2.mono (fun i h => by simp [cov, Ch.ro] at h)), hK102, hK106⟩, stab [0, 1] (by kernel_rfl) ⟨rfl, rfl, trivial⟩⟩
        trivial) ?_
      exact all_nil
     ·rintro ⟨a99, c100, K101, a103, c104, K105⟩ ρ σ107 hJ hoff hrel
      have e1 := look_off (N := 123) (hoff 1 rfl) rfl
      have e2 := look_off (N := 123) (hoff 2 rfl) rfl
      have e3 := look_off (N := 123) (hoff 3 rfl) rfl
      have e4 := look_off (N := 123) (hoff 4 rfl) rfl
      have e5 := look_off (N := 123) (hoff 5 rfl) rfl
      have e12 := look_off (N := 123) (hoff 12 rfl) rfl
      have e13 := look_off (N := 123) (hoff 13 rfl) rfl
      have e14 := look_off (N := 123) (hoff 14 rfl) rfl
      have e15 := look_off (N := 123) (hoff 15 rfl) rfl
      have e16 := look_off (N := 123) (hoff 16 rfl) rfl
      have e59 := hrel 0 rfl 59 rfl
      have e61 := hrel 2 rfl 61 rfl
      obtain ⟨H, -, hK102, hK106⟩ := (show Hp S0 σ0 σ107 [Ch.big K101, Ch.big K105, Ch.own 0 n0 (Sl a86 r83 c87) r83, Ch.own n0 n0 (Sl a48 r45 c49) r45, Ch.big K57, Ch.big K61, Ch.big K72, Ch.own n0 n0 (Sl a78 r75 c79) r75, Ch.bx n0 b64 0 [(Sl a55 r52.1 c56), (Sl a59 r52.2 c60)] [] [], Ch.bx n0 b1 0 [(Sl Ji Jd.1 Jj), (Sl Jk Jd.2 Jm)] [] [], Ch.ro 0 (Sl Ji Jd.1 Jj) Jd.1, Ch.ro 0 (Sl Jk Jd.2 Jm) Jd.2, Ch.ro 0 (Sl Jn Je Jo) Je, Ch.ro 0 (Sl Jp Jf Jq) Jf] ∧ Md (cov []) σ92 σ107 ∧ Dp 0 (Sl a99 r96.1 c100) r96.1 K101 ∧ Dp 0 (Sl a103 r96.2 c104) r96.2 K105 from hJ)
      clear hJ Hs
      rw [fr_lookL (L := [(1, (Sl Jn Je Jo)), (2, (Sl Jp Jf Jq)), (3, (I Jg)), (4, (I Jh)), (5, (pt b1 0)), (12, (Sl a48 r45 c49)), (13, (pt b64 0)), (14, (Sl a70 r67 c71)), (15, (Sl a78 r75 c79)), (16, (Sl a86 r83 c87)), (59, (.agg #[(Sl a55 r52.1 c56), (Sl a59 r52.2 c60)])), (61, (.agg #[(Sl a99 r96.1 c100), (Sl a103 r96.2 c104)]))]) ⟨e1, e2, e3, e4, e5, e12, e13, e14, e15, e16, e59, e61, trivial⟩]
      clear hoff hrel e1 e2 e3 e4 e5 e12 e13 e14 e15 e16 e59 e61
      revert h; refine br fun r108 hx109 h => ?_
      have hc110 := c_laws_eqBook (Af := a55) (Ag := c56) (Ah := a59) (Ai := c60) (Ao := a99) (Ap := c100) (Aq := a103) (Ar := c104) hx109
      have hle := Nat.le_trans hn0 H.size
      refine st_call (cx_lend (Loan.lendB hK58.lends (Loan.lendB hK62.lends (Loan.lendB hK102.lends (Loan.lendB hK106.lends Loan.nil)))) hc110 (ent_f hc110.fn rfl) (show Hp S0 σ0 _ ([Ch.big K57, Ch.big K61, Ch.big K101, Ch.big K105] ++ ([] ++ [Ch.own 0 n0 (Sl a86 r83 c87) r83, Ch.own n0 n0 (Sl a48 r45 c49) r45, Ch.big K72, Ch.own n0 n0 (Sl a78 r75 c79) r75, Ch.bx n0 b64 0 [(Sl a55 r52.1 c56), (Sl a59 r52.2 c60)] [] [], Ch.bx n0 b1 0 [(Sl Ji Jd.1 Jj), (Sl Jk Jd.2 Jm)] [] [], Ch.ro 0 (Sl Ji Jd.1 Jj) Jd.1, Ch.ro 0 (Sl Jk Jd.2 Jm) Jd.2, Ch.ro 0 (Sl Jn Je Jo) Je, Ch.ro 0 (Sl Jp Jf Jq) Jf])) from (H.sel' [4, 5, 0, 1, 2, 3, 6, 7, 8, 9, 10, 11, 12, 13] rfl rfl)) (by rintro _ _ _ ⟨rfl, rfl⟩; exact trivial)) wn ?_
      rintro _ σ111 ⟨_, ⟨rfl, rfl⟩, H, -, -⟩
      replace H : Hp _ _ _ [_, _, _, _, _, _, _, _, _, _, _, _, _, _] := H
      clear hle
      replace H : Hp _ _ _ [_, _, _, _, _, _, _, _, _, _, _, _, _, _] := H
      replace H : Hp S0 σ0 σ111 [Ch.big K57, Ch.big K61, Ch.own 0 n0 (Sl a86 r83 c87) r83, Ch.own n0 n0 (Sl a48 r45 c49) r45, Ch.big K72, Ch.own n0 n0 (Sl a78 r75 c79) r75, Ch.bx n0 b64 0 [(Sl a55 r52.1 c56), (Sl a59 r52.2 c60)] [] [], Ch.bx n0 b1 0 [(Sl Ji Jd.1 Jj), (Sl Jk Jd.2 Jm)] [] [], Ch.ro 0 (Sl Ji Jd.1 Jj) Jd.1, Ch.ro 0 (Sl Jk Jd.2 Jm) Jd.2, Ch.ro 0 (Sl Jn Je Jo) Je, Ch.ro 0 (Sl Jp Jf Jq) Jf] := H.sel' [0, 1, 4, 5, 6, 7, 8, 9, 10, 11, 12, 13] rfl rfl
      refine st (v := (B (!r108))) (rv_not rfl) (w_end (q_then ?_))
      refine cd_cond (!r108) rfl (fun hb112 => ?_) (fun hb112 => ?_)
      ·replace h := bif_t hb112 h
       refine c_seq (rg (sa (B false) rfl (w_end (q_then (c_ret (q_then_r ?_))))))
       obtain rfl := sj h
       exact fin_ret (v := (B false)) (results_ok Tryz.results4 (res_tmp (v := (B false)) rfl res_nil) rfl) ⟨rfl, rfl⟩ (H.sel' [] rfl rfl)
      ·replace h := bif_f hb112 h
       refine c_skip (q_then (c_seq (c_seq (rg (sm (Sl a70 r67 c71) rfl (sm (Sl Jn Je Jo) rfl ?_))))))
       revert h; refine br fun r113 hx114 h => ?_
       have hc115 := c_laws_toItemS (Ad := Jn) (Ae := Jo) hx114
       refine st_call (cx_call hc115 (ent_f hc115.fn rfl) hn0 (H.sel' [10, 0, 1, 2, 3, 4, 5, 6, 7, 8, 9, 10, 11] rfl rfl : Hp S0 σ0 _ ([_] ++ _))) wn ?_
       rintro _ σ120 ⟨_, ⟨a116, c117, K118, rfl, rfl, hK119⟩, H, -⟩
       replace H : Hp _ _ _ [_, _, _, _, _, _, _, _, _, _, _, _, _] := H
       revert h; refine br fun r121 hx122 h => ?_
       have hc123 := c_laws_eqItemS (Ad := a70) (Ae := c71) (Ak := a116) (Am := c117) hx122
       have hle := Nat.le_trans hn0 H.size
       refine st_call (cx_lend (Loan.lendB hK73.lends (Loan.lendB hK119.lends Loan.nil)) hc123 (ent_f hc123.fn rfl) (show Hp S0 σ0 _ ([Ch.big K72, Ch.big K118] ++ ([] ++ [Ch.big K57, Ch.big K61, Ch.own 0 n0 (Sl a86 r83 c87) r83, Ch.own n0 n0 (Sl a48 r45 c49) r45, Ch.own n0 n0 (Sl a78 r75 c79) r75, Ch.bx n0 b64 0 [(Sl a55 r52.1 c56), (Sl a59 r52.2 c60)] [] [], Ch.bx n0 b1 0 [(Sl Ji Jd.1 Jj), (Sl Jk Jd.2 Jm)] [] [], Ch.ro 0 (Sl Ji Jd.1 Jj) Jd.1, Ch.ro 0 (Sl Jk Jd.2 Jm) Jd.2, Ch.ro 0 (Sl Jn Je Jo) Je, Ch.ro 0 (Sl Jp Jf Jq) Jf])) from (H.sel' [5, 0, 1, 2, 3, 4, 6, 7, 8, 9, 10, 11, 12] rfl rfl)) (by rintro _ _ _ ⟨rfl, rfl⟩; exact trivial)) wn ?_
       rintro _ σ124 ⟨_, ⟨rfl, rfl⟩, H, -, -⟩
       replace H : Hp _ _ _ [_, _, _, _, _, _, _, _, _, _, _, _, _] := H
       clear hle
       replace H : Hp _ _ _ [_, _, _, _, _, _, _, _, _, _, _, _, _] := H
       replace H : Hp S0 σ0 σ124 [Ch.big K72, Ch.big K57, Ch.big K61, Ch.own 0 n0 (Sl a86 r83 c87) r83, Ch.own n0 n0 (Sl a48 r45 c49) r45, Ch.own n0 n0 (Sl a78 r75 c79) r75, Ch.bx n0 b64 0 [(Sl a55 r52.1 c56), (Sl a59 r52.2 c60)] [] [], Ch.bx n0 b1 0 [(Sl Ji Jd.1 Jj), (Sl Jk Jd.2 Jm)] [] [], Ch.ro 0 (Sl Ji Jd.1 Jj) Jd.1, Ch.ro 0 (Sl Jk Jd.2 Jm) Jd.2, Ch.ro 0 (Sl Jn Je Jo) Je, Ch.ro 0 (Sl Jp Jf Jq) Jf] := H.sel' [0, 2, 3, 4, 5, 6, 7, 8, 9, 10, 11, 12] rfl rfl
       refine st (v := (B (!r121))) (rv_not rfl) (w_end (q_then ?_))
       refine cd_cond (!r121) rfl (fun hb125 => ?_) (fun hb125 => ?_)
       ·replace h := bif_t hb125 h
        refine c_seq (rg (sa (B false) rfl (w_end (q_then (c_ret (q_then_r ?_))))))
        obtain rfl := sj h
        exact fin_ret (v := (B false)) (results_ok Tryz.results4 (res_tmp (v := (B false)) rfl res_nil) rfl) ⟨rfl, rfl⟩ (H.sel' [] rfl rfl)
       ·replace h := bif_f hb125 h
        refine c_skip (q_then (c_seq (c_seq (rg (sm (Sl a78 r75 c79) rfl (sm (Sl Jp Jf Jq) rfl ?_))))))
        revert h; refine br fun r126 hx127 h => ?_
        have hc128 := c_laws_toIntS (Ad := Jp) (Ae := Jq) hx127
        refine st_call (cx_call hc128 (ent_f hc128.fn rfl) hn0 (H.sel' [11, 0, 1, 2, 3, 4, 5, 6, 7, 8, 9, 10, 11] rfl rfl : Hp S0 σ0 _ ([_] ++ _))) wn ?_
        rintro _ σ132 ⟨_, ⟨a129, c130, rfl, rfl, ht131⟩, H, -⟩
        replace H : Hp _ _ _ [_, _, _, _, _, _, _, _, _, _, _, _, _] := H
        obtain ⟨σ133, hw134, H, -⟩ := H.pub 0 rfl (Nat.le_refl _)
        rw [← hw134]; clear hw134
        replace H := H.roLow 0 0 rfl (Nat.zero_le _)
        revert h; refine br fun r135 hx136 h => ?_
        have hc137 := c_laws_eqIntS (Ad := a78) (Ae := c79) (Ak := a129) (Am := c130) hx136
        have hle := Nat.le_trans hn0 H.size
        refine st_call (cx_lend (Loan.lend (Loan.same Loan.nil)) hc137 (ent_f hc137.fn rfl) (show Hp S0 σ0 _ ([Ch.own n0 n0 (Sl a78 r75 c79) r75] ++ ([Ch.ro 0 (Sl a129 r126 c130) r126] ++ [Ch.ro 0 (Sl a129 r126 c130) r126, Ch.ro n0 (Sl a129 r126 c130) r126, Ch.big K72, Ch.big K57, Ch.big K61, Ch.own 0 n0 (Sl a86 r83 c87) r83, Ch.own n0 n0 (Sl a48 r45 c49) r45, Ch.bx n0 b64 0 [(Sl a55 r52.1 c56), (Sl a59 r52.2 c60)] [] [], Ch.bx n0 b1 0 [(Sl Ji Jd.1 Jj), (Sl Jk Jd.2 Jm)] [] [], Ch.ro 0 (Sl Ji Jd.1 Jj) Jd.1, Ch.ro 0 (Sl Jk Jd.2 Jm) Jd.2, Ch.ro 0 (Sl Jn Je Jo) Je, Ch.ro 0 (Sl Jp Jf Jq) Jf])) from (H.sel' [7, 0, 0, 1, 2, 3, 4, 5, 6, 8, 9, 10, 11, 12, 13] rfl rfl)) (by rintro _ _ _ ⟨rfl, rfl⟩; exact trivial)) wn ?_
        rintro _ σ138 ⟨_, ⟨rfl, rfl⟩, H, -, -⟩
        replace H : Hp _ _ _ [_, _, _, _, _, _, _, _, _, _, _, _, _, _] := H
        clear hle
        replace H : Hp _ _ _ [_, _, _, _, _, _, _, _, _, _, _, _, _, _] := H
        replace H : Hp S0 σ0 σ138 [Ch.own n0 n0 (Sl a78 r75 c79) r75, Ch.big K72, Ch.big K57, Ch.big K61, Ch.own 0 n0 (Sl a86 r83 c87) r83, Ch.own n0 n0 (Sl a48 r45 c49) r45, Ch.bx n0 b64 0 [(Sl a55 r52.1 c56), (Sl a59 r52.2 c60)] [] [], Ch.bx n0 b1 0 [(Sl Ji Jd.1 Jj), (Sl Jk Jd.2 Jm)] [] [], Ch.ro 0 (Sl Ji Jd.1 Jj) Jd.1, Ch.ro 0 (Sl Jk Jd.2 Jm) Jd.2, Ch.ro 0 (Sl Jn Je Jo) Je, Ch.ro 0 (Sl Jp Jf Jq) Jf] := H.sel' [0, 3, 4, 5, 6, 7, 8, 9, 10, 11, 12, 13] rfl rfl
        refine st (v := (B (!r135))) (rv_not rfl) (w_end (q_then ?_))
        refine cd_cond (!r135) rfl (fun hb139 => ?_) (fun hb139 => ?_)
        ·replace h := bif_t hb139 h
         refine c_seq (rg (sa (B false) rfl (w_end (q_then (c_ret (q_then_r ?_))))))
         obtain rfl := sj h
         exact fin_ret (v := (B false)) (results_ok Tryz.results4 (res_tmp (v := (B false)) rfl res_nil) rfl) ⟨rfl, rfl⟩ (H.sel' [] rfl rfl)
        ·replace h := bif_f hb139 h
         refine c_skip (q_then (c_seq (rg (sa (I 1) rfl (w_end (q_then (c_seq (rg ?_))))))))
         have hc140 := H.cells 6 rfl
         refine st (v := (.agg #[(Sl a55 r52.1 c56), (Sl a59 r52.2 c60)])) (rv_load (cs := [(Sl a55 r52.1 c56), (Sl a59 r52.2 c60)]) Tryz.underlying31 rfl ti31 rfl rfl hc140) (sm (I 1) rfl ?_)
         revert h; refine br fun r141 hx142 h => ?_
         have hc143 := c_laws_markBook (Af := a55) (Ag := c56) (Aw := hK58) (Ah := a59) (Ai := c60) (Az := hK62) hx142
         refine st_call (cx_call hc143 (ent_f hc143.fn rfl) hn0 (H.sel' [2, 3, 0, 1, 4, 5, 6, 7, 8, 9, 10, 11] rfl rfl : Hp S0 σ0 _ ([_, _] ++ _))) wn ?_
         rintro _ σ144 ⟨_, ⟨rfl, rfl⟩, H, -⟩
         replace H : Hp _ _ _ [_, _, _, _, _, _, _, _, _, _] := H
         replace H : Hp S0 σ0 σ144 [Ch.own n0 n0 (Sl a78 r75 c79) r75, Ch.big K72, Ch.own 0 n0 (Sl a86 r83 c87) r83, Ch.own n0 n0 (Sl a48 r45 c49) r45, Ch.bx n0 b1 0 [(Sl Ji Jd.1 Jj), (Sl Jk Jd.2 Jm)] [] [], Ch.ro 0 (Sl Ji Jd.1 Jj) Jd.1, Ch.ro 0 (Sl Jk Jd.2 Jm) Jd.2, Ch.ro 0 (Sl Jn Je Jo) Je, Ch.ro 0 (Sl Jp Jf Jq) Jf] := H.sel' [0, 1, 2, 3, 5, 6, 7, 8, 9] rfl rfl
         refine sa (I r141) rfl (w_end (q_then (c_seq (rg (sm (Sl a70 r67 c71) rfl (sm (I r141) rfl ?_))))))
         revert h; refine br fun r145 hx146 h => ?_
         have hc147 := c_laws_markItemS (Ad := a70) (Ae := c71) (hK := hK73) hx146
         refine st_call (cx_call hc147 (ent_f hc147.fn rfl) hn0 (H.sel' [1, 0, 2, 3, 4, 5, 6, 7, 8] rfl rfl : Hp S0 σ0 _ ([_] ++ _))) wn ?_
         rintro _ σ148 ⟨_, ⟨rfl, rfl⟩, H, -⟩
         replace H : Hp _ _ _ [_, _, _, _, _, _, _, _] := H
         refine sa (I r145) rfl (w_end (q_then (c_seq (rg (sm (Sl a78 r75 c79) rfl (sm (I r145) rfl ?_))))))
         replace H := H.ownLow 0 0 0 rfl (Nat.zero_le _) (Nat.zero_le _)
         revert h; refine br fun r149 hx150 h => ?_
         have hc151 := c_laws_markIntS (Ad := a78) (Ae := c79) hx150
         refine st_call (cx_call hc151 (ent_f hc151.fn rfl) hn0 (H.sel' [0, 1, 2, 3, 4, 5, 6, 7] rfl rfl : Hp S0 σ0 _ ([_] ++ _))) wn ?_
         rintro _ σ153 ⟨_, ⟨rfl, rfl, hn152⟩, H, -⟩
         replace H : Hp _ _ _ [_, _, _, _, _, _, _, _] := H
         have hsl : (Sl a78 r75 c79) = (Sl a78 r149.2 c79) := sl_len hn152.symm
         try rw [hsl]
         try rw [hsl] at H
         clear hsl
         replace H : Hp S0 σ0 σ153 [Ch.own 0 n0 (Sl a86 r83 c87) r83, Ch.own n0 n0 (Sl a48 r45 c49) r45, Ch.bx n0 b1 0 [(Sl Ji Jd.1 Jj), (Sl Jk Jd.2 Jm)] [] [], Ch.ro 0 (Sl Ji Jd.1 Jj) Jd.1, Ch.ro 0 (Sl Jk Jd.2 Jm) Jd.2, Ch.ro 0 (Sl Jn Je Jo) Je, Ch.ro 0 (Sl Jp Jf Jq) Jf] := H.sel' [1, 2, 3, 4, 5, 6, 7] rfl rfl
         refine sa (I r149.1) rfl (w_end (q_then (c_seq (c_seq ?_))))
         obtain ⟨o154, hj, h'⟩ := bind_some h
         clear h
         refine c_cut (fun e a w => e = .normal ∧ ∃ (ρ : Nat → Value) (σ : St), a = fr 123 (updL ρ [(1, (Sl Jn Je Jo)), (2, (Sl Jp Jf Jq)), (3, (I Jg)), (4, (I Jh)), (5, (pt b1 0)), (12, (Sl a48 r45 c49)), (16, (Sl a86 r83 c87)), (90, (B o154))]) ∧ w = σ.w ∧ Hp S0 σ0 σ [Ch.ro 0 (Sl Jn Je Jo) Je, Ch.ro 0 (Sl Jp Jf Jq) Jf, Ch.ro 0 (Sl Ji Jd.1 Jj) Jd.1, Ch.ro 0 (Sl Jk Jd.2 Jm) Jd.2, Ch.bx n0 b1 0 [(Sl Ji Jd.1 Jj), (Sl Jk Jd.2 Jm)] [] [], Ch.own n0 n0 (Sl a48 r45 c49) r45, Ch.own 0 n0 (Sl a86 r83 c87) r83]) ?_ ?_
         ·clear h'
          rename _ = some o154 => h
          refine rg (sm (I r149.1) rfl (st (v := (B (decide (r149.1 < 0)))) (rv_lss (a := r149.1) (b := 0) rfl rfl) (sm (B (decide (r149.1 < 0))) rfl ?_)))
          rcases Bool.eq_false_or_eq_true (decide (r149.1 < 0)) with hb155 | hb155
          ·replace h := bif_t hb155 h
           refine st_skip (congrArg some hb155) (st_skip (congrArg some hb155) (st_skip (congrArg some hb155) (st_skip (congrArg some hb155) (st (v := (B true)) (rv_pick_t (congrArg B hb155) rfl) (w_end ?_)))))
           obtain rfl := sj h
           exact ⟨rfl, _, σ153, fr_join ⟨rfl, rfl, rfl, rfl, rfl, rfl, rfl, rfl, trivial⟩, rfl, H.sel' [5, 6, 3, 4, 2, 1, 0] rfl rfl⟩
          ·replace h := bif_f hb155 h
           refine st_g (v := (Sl a86 r83 c87)) (congrArg some hb155) (rv_move rfl) (st_g (v := (Sl a48 r45 c49)) (congrArg some hb155) (rv_move rfl) ?_)
           revert h; refine br fun r156 hx157 h => ?_
           have hc158 := c_laws_eqHitS (Ad := a86) (Ae := c87) (Ak := a48) (Am := c49) hx157
           have hle := Nat.le_trans hn0 H.size
           refine st_call (cx_lend (Loan.lend (Loan.lend Loan.nil)) hc158 (ent_f hc158.fn rfl) (show Hp S0 σ0 _ ([Ch.own 0 n0 (Sl a86 r83 c87) r83, Ch.own n0 n0 (Sl a48 r45 c49) r45] ++ ([] ++ [Ch.bx n0 b1 0 [(Sl Ji Jd.1 Jj), (Sl Jk Jd.2 Jm)] [] [], Ch.ro 0 (Sl Ji Jd.1 Jj) Jd.1, Ch.ro 0 (Sl Jk Jd.2 Jm) Jd.2, Ch.ro 0 (Sl Jn Je Jo) Je, Ch.ro 0 (Sl Jp Jf Jq) Jf])) from (H.sel' [0, 1, 2, 3, 4, 5, 6] rfl rfl)) (by rintro _ _ _ ⟨rfl, rfl⟩; exact trivial)) (wanted_yes rfl (by exact (congrArg some hb155))) ?_
           rintro _ σ159 ⟨_, ⟨rfl, rfl⟩, H, -, -⟩
           replace H : Hp _ _ _ [_, _, _, _, _, _, _] := H
           clear hle
           replace H : Hp _ _ _ [_, _, _, _, _, _, _] := H
           refine st_g (v := (B (!r156))) (congrArg some hb155) (rv_not rfl) (st (v := (B (!r156))) (rv_pick_f (congrArg B hb155) rfl) (w_end ?_))
           obtain rfl := sj h
           exact ⟨rfl, _, σ159, fr_join ⟨rfl, rfl, rfl, rfl, rfl, rfl, rfl, rfl, trivial⟩, rfl, H.sel' [5, 6, 3, 4, 2, 1, 0] rfl rfl⟩
         ·clear hj
          have h := h'
          clear h' H
          rintro e a w ⟨rfl, ρ, σ160, rfl, rfl, H⟩
          refine q_then ?_
          refine cd_cond o154 rfl (fun hb161 => ?_) (fun hb161 => ?_)
          ·replace h := bif_t hb161 h
           refine c_seq (rg (sa (B false) rfl (w_end (q_then (c_ret (q_then_r ?_))))))
           obtain rfl := sj h
           exact fin_ret (v := (B false)) (results_ok Tryz.results4 (res_tmp (v := (B false)) rfl res_nil) rfl) ⟨rfl, rfl⟩ (H.sel' [] rfl rfl)
          ·replace h := bif_f hb161 h
           refine c_skip (q_then (c_seq (rg (sa (I 1) rfl (w_end (q_then (c_seq (rg (sm (Sl a86 r83 c87) rfl (sm (I 1) rfl ?_))))))))))
           replace H := H.ownLow 6 0 0 rfl (Nat.zero_le _) (Nat.zero_le _)
           revert h; refine br fun r162 hx163 h => ?_
           have hc164 := c_laws_markHitS (Ad := a86) (Ae := c87) hx163
           refine st_call (cx_call hc164 (ent_f hc164.fn rfl) hn0 (H.sel' [0, 1, 2, 3, 4, 5, 6] rfl rfl : Hp S0 σ0 _ ([_] ++ _))) wn ?_
           rintro _ σ166 ⟨_, ⟨rfl, rfl, hn165⟩, H, -⟩
           replace H : Hp _ _ _ [_, _, _, _, _, _, _] := H
           have hsl : (Sl a86 r83 c87) = (Sl a86 r162.2 c87) := sl_len hn165.symm
           try rw [hsl]
           try rw [hsl] at H
           clear hsl
           refine sa (I r162.1) rfl (w_end (q_then (c_seq (rg (sa (I 1) rfl (w_end (q_then (c_seq (rg (sm (Sl a86 r162.2 c87) rfl (sm (I 1) rfl ?_)))))))))))
           revert h; refine br fun r167 hx168 h => ?_
           have hc169 := c_laws_heldHitS (Ad := a86) (Ae := c87) hx168
           have hle := Nat.le_trans hn0 H.size
           refine st_call (cx_lend (Loan.lend Loan.nil) hc169 (ent_f hc169.fn rfl) (show Hp S0 σ0 _ ([Ch.own 0 0 (Sl a86 r162.2 c87) r162.2] ++ ([] ++ [Ch.ro 0 (Sl Jn Je Jo) Je, Ch.ro 0 (Sl Jp Jf Jq) Jf, Ch.ro 0 (Sl Ji Jd.1 Jj) Jd.1, Ch.ro 0 (Sl Jk Jd.2 Jm) Jd.2, Ch.bx n0 b1 0 [(Sl Ji Jd.1 Jj), (Sl Jk Jd.2 Jm)] [] [], Ch.own n0 n0 (Sl a48 r45 c49) r45])) from (H.sel' [0, 1, 2, 3, 4, 5, 6] rfl rfl)) (by rintro _ _ _ ⟨rfl, rfl⟩; exact trivial)) wn ?_
           rintro _ σ170 ⟨_, ⟨rfl, rfl⟩, H, -, -⟩
           replace H : Hp _ _ _ [_, _, _, _, _, _, _] := H
           clear hle
           replace H : Hp _ _ _ [_, _, _, _, _, _, _] := H
           refine sa (I r167) rfl (w_end (q_then (c_seq (c_seq (rg (sm (I r167) rfl (st (v := (B (decide (r167 < 0)))) (rv_lss (a := r167) (b := 0) rfl rfl) (w_end (q_then ?_)))))))))
           refine cd_cond (decide (r167 < 0)) rfl (fun hb171 => ?_) (fun hb171 => ?_)
           ·replace h := bif_t hb171 h
            refine c_seq (rg (sa (B false) rfl (w_end (q_then (c_ret (q_then_r ?_))))))
            obtain rfl := sj h
            exact fin_ret (v := (B false)) (results_ok Tryz.results4 (res_tmp (v := (B false)) rfl res_nil) rfl) ⟨rfl, rfl⟩ (H.sel' [] rfl rfl)
           ·replace h := bif_f hb171 h
            refine c_skip (q_then (c_seq (c_seq (rg (sm (I r167) rfl (sm (I r162.1) rfl (st (v := (B (r167 != r162.1))) (rv_neq (a := r167) (b := r162.1) rfl rfl) (w_end (q_then ?_)))))))))
            refine cd_cond (r167 != r162.1) rfl (fun hb172 => ?_) (fun hb172 => ?_)
            ·replace h := bif_t hb172 h
             refine c_seq (rg (sa (B false) rfl (w_end (q_then (c_ret (q_then_r ?_))))))
             obtain rfl := sj h
             exact fin_ret (v := (B false)) (results_ok Tryz.results4 (res_tmp (v := (B false)) rfl res_nil) rfl) ⟨rfl, rfl⟩ (H.sel' [] rfl rfl)
            ·replace h := bif_f hb172 h
             refine c_skip (q_then (c_seq (rg ?_)))
             have hc173 := H.cells 5 rfl
             refine st (v := (.agg #[(Sl Ji Jd.1 Jj), (Sl Jk Jd.2 Jm)])) (rv_load (cs := [(Sl Ji Jd.1 Jj), (Sl Jk Jd.2 Jm)]) Tryz.underlying24 rfl ti24 rfl rfl hc173) ?_
             revert h; refine br fun r174 hx175 h => ?_
             have hc176 := c_laws_toBookD (Af := Ji) (Ag := Jj) (Ah := Jk) (Ai := Jm) hx175
             refine st_call (cx_call hc176 (ent_f hc176.fn rfl) hn0 (H.sel' [3, 4, 0, 1, 2, 3, 4, 5, 6] rfl rfl : Hp S0 σ0 _ ([_, _] ++ _))) wn ?_
             rintro _ σ185 ⟨_, ⟨a177, c178, K179, a181, c182, K183, rfl, rfl, hK180, hK184⟩, H, -⟩
             replace H : Hp _ _ _ [_, _, _, _, _, _, _, _, _] := H
             replace H : Hp S0 σ0 σ185 [Ch.big K179, Ch.big K183, Ch.own 0 0 (Sl a86 r162.2 c87) r162.2, Ch.ro 0 (Sl Jn Je Jo) Je, Ch.ro 0 (Sl Jp Jf Jq) Jf, Ch.own n0 n0 (Sl a48 r45 c49) r45] := H.sel' [0, 1, 2, 3, 4, 8] rfl rfl
             refine sm (Sl Jn Je Jo) rfl ?_
             revert h; refine br fun r186 hx187 h => ?_
             have hc188 := c_laws_toItemS (Ad := Jn) (Ae := Jo) hx187
             refine st_call (cx_call hc188 (ent_f hc188.fn rfl) hn0 (H.sel' [3, 0, 1, 2, 3, 4, 5] rfl rfl : Hp S0 σ0 _ ([_] ++ _))) wn ?_
             rintro _ σ193 ⟨_, ⟨a189, c190, K191, rfl, rfl, hK192⟩, H, -⟩
             replace H : Hp _ _ _ [_, _, _, _, _, _, _] := H
             refine sm (Sl Jp Jf Jq) rfl ?_
             revert h; refine br fun r194 hx195 h => ?_
             have hc196 := c_laws_toIntS (Ad := Jp) (Ae := Jq) hx195
             refine st_call (cx_call hc196 (ent_f hc196.fn rfl) hn0 (H.sel' [5, 0, 1, 2, 3, 4, 5, 6] rfl rfl : Hp S0 σ0 _ ([_] ++ _))) wn ?_
             rintro _ σ200 ⟨_, ⟨a197, c198, rfl, rfl, ht199⟩, H, -⟩
             replace H : Hp _ _ _ [_, _, _, _, _, _, _, _] := H
             replace H : Hp S0 σ0 σ200 [Ch.own n0 n0 (Sl a197 r194 c198) r194, Ch.big K191, Ch.big K179, Ch.big K183, Ch.own 0 0 (Sl a86 r162.2 c87) r162.2, Ch.own n0 n0 (Sl a48 r45 c49) r45] := H.sel' [0, 1, 2, 3, 4, 7] rfl rfl
             refine sm (I Jg) rfl (sm (I Jh) rfl ?_)
             obtain ⟨σ201, hw202, H, -⟩ := H.pub 0 rfl (Nat.le_refl _)
             rw [← hw202]; clear hw202
             replace H := H.roLow 0 0 rfl (Nat.zero_le _)
             revert h; refine br fun r203 hx204 h => ?_
             have hc205 := c_impl_RerankNearest (Bh := a177) (Bi := c178) (Bj := a181) (Bk := c182) (Cq := a189) (Cr := c190) (Bu := a197) (Bv := c198) hx204
             have hle := Nat.le_trans hn0 H.size
             refine st_call (cx_lend (Loan.lendB hK180.lends (Loan.lendB hK184.lends (Loan.lendB hK192.lends (Loan.same Loan.nil)))) hc205 (ent_f hc205.fn rfl) (show Hp S0 σ0 _ ([Ch.big K179, Ch.big K183, Ch.big K191] ++ ([Ch.ro 0 (Sl a197 r194 c198) r194] ++ [Ch.ro 0 (Sl a197 r194 c198) r194, Ch.ro n0 (Sl a197 r194 c198) r194, Ch.own 0 0 (Sl a86 r162.2 c87) r162.2, Ch.own n0 n0 (Sl a48 r45 c49) r45])) from (H.sel' [3, 4, 2, 0, 0, 1, 5, 6] rfl rfl)) (by rintro _ _ _ ⟨_, _, rfl, rfl⟩; exact ⟨Ab.ownSc, trivial⟩)) wn ?_
             rintro _ σ208 ⟨_, ⟨a206, c207, rfl, rfl⟩, H, -, -⟩
             replace H : Hp _ _ _ [_, _, _, _, _, _, _, _] := H
             replace H := H.ownLow 0 0 n0 rfl (Nat.le_refl _) hle
             clear hle
             replace H : Hp _ _ _ [_, _, _, _, _, _, _, _] := H
             replace H : Hp S0 σ0 σ208 [Ch.own 0 n0 (Sl a206 r203 c207) r203, Ch.own 0 0 (Sl a86 r162.2 c87) r162.2, Ch.own n0 n0 (Sl a48 r45 c49) r45] := H.sel' [0, 6, 7] rfl rfl
             refine sa (Sl a206 r203 c207) rfl (w_end (q_then (c_seq (c_seq (rg (sm (Sl a206 r203 c207) rfl (sm (Sl a48 r45 c49) rfl ?_)))))))
             replace H := H.ownLow 0 0 0 rfl (Nat.le_refl _) (Nat.zero_le _)
             obtain ⟨σ209, hw210, H, -⟩ := H.pub 0 rfl (Nat.le_refl _)
             rw [← hw210]; clear hw210
             obtain ⟨σ211, hw212, H, -⟩ := H.pub 2 rfl (Nat.le_refl _)
             rw [← hw212]; clear hw212
             replace H := H.roLow 0 0 rfl (Nat.zero_le _)
             revert h; refine br fun r213 hx214 h => ?_
             have hc215 := c_laws_eqHitS (Ad := a206) (Ae := c207) (Ak := a48) (Am := c49) hx214
             refine st_call (cx_call hc215 (ent_f hc215.fn rfl) hn0 (H.sel' [2, 0, 0, 1, 2, 3] rfl rfl : Hp S0 σ0 _ ([_, _] ++ _))) wn ?_
             rintro _ σ216 ⟨_, ⟨rfl, rfl⟩, H, -⟩
             replace H : Hp _ _ _ [_, _, _, _] := H
             refine st (v := (B (!r213))) (rv_not rfl) (w_end (q_then ?_))
             refine cd_cond (!r213) rfl (fun hb217 => ?_) (fun hb217 => ?_)
             ·replace h := bif_t hb217 h
              refine c_seq (rg (sa (B false) rfl (w_end (q_then (c_ret (q_then_r ?_))))))
              obtain rfl := sj h
              exact fin_ret (v := (B false)) (results_ok Tryz.results4 (res_tmp (v := (B false)) rfl res_nil) rfl) ⟨rfl, rfl⟩ (H.sel' [] rfl rfl)
             ·replace h := bif_f hb217 h
              refine c_skip (q_then (c_seq (rg (sa (I 1) rfl (w_end (q_then (c_seq (rg (sm (Sl a86 r162.2 c87) rfl (sm (I 1) rfl ?_))))))))))
              obtain ⟨σ218, hw219, H, -⟩ := H.pub 3 rfl (Nat.le_refl _)
              rw [← hw219]; clear hw219
              revert h; refine br fun r220 hx221 h => ?_
              have hc222 := c_laws_heldHitS (Ad := a86) (Ae := c87) hx221
              refine st_call (cx_call hc222 (ent_f hc222.fn rfl) hn0 (H.sel' [0, 0, 1, 2, 3] rfl rfl : Hp S0 σ0 _ ([_] ++ _))) wn ?_
              rintro _ σ223 ⟨_, ⟨rfl, rfl⟩, H, -⟩
              replace H : Hp _ _ _ [_, _, _, _] := H
              refine sa (I r220) rfl (w_end (q_then (c_seq (c_seq (rg (sm (I r220) rfl (st (v := (B (decide (r220 < 0)))) (rv_lss (a := r220) (b := 0) rfl rfl) (w_end (q_then ?_)))))))))
              refine cd_cond (decide (r220 < 0)) rfl (fun hb224 => ?_) (fun hb224 => ?_)
              ·replace h := bif_t hb224 h
               refine c_seq (rg (sa (B false) rfl (w_end (q_then (c_ret (q_then_r ?_))))))
               obtain rfl := sj h
               exact fin_ret (v := (B false)) (results_ok Tryz.results4 (res_tmp (v := (B false)) rfl res_nil) rfl) ⟨rfl, rfl⟩ (H.sel' [] rfl rfl)
              ·replace h := bif_f hb224 h
               refine c_skip (q_then (c_seq (c_seq (rg (sm (I r220) rfl (sm (I r162.1) rfl (st (v := (B (r220 != r162.1))) (rv_neq (a := r220) (b := r162.1) rfl rfl) (w_end (q_then ?_)))))))))
               refine cd_cond (r220 != r162.1) rfl (fun hb225 => ?_) (fun hb225 => ?_)
               ·replace h := bif_t hb225 h
                refine c_seq (rg (sa (B false) rfl (w_end (q_then (c_ret (q_then_r ?_))))))
                obtain rfl := sj h
                exact fin_ret (v := (B false)) (results_ok Tryz.results4 (res_tmp (v := (B false)) rfl res_nil) rfl) ⟨rfl, rfl⟩ (H.sel' [] rfl rfl)
               ·replace h := bif_f hb225 h
                refine c_skip (q_then (c_seq (rg (sa (B true) rfl (w_end (q_then (c_ret ?_)))))))
                obtain rfl := sj h
                exact fin_ret (v := (B true)) (results_ok Tryz.results4 (res_tmp (v := (B true)) rfl res_nil) rfl) ⟨rfl, rfl⟩ (H.sel' [] rfl rfl)

end Go.Vs
