/- The functions compute what their models say. -/
import Derived.Test.YtbnhppnkdmnneaaGreatKExactProbeNearestC5
set_option linter.unusedVariables false
set_option linter.unusedSimpArgs false
set_option maxRecDepth 20000
namespace Go.Vs
open Go Go.Proofs
attribute [local irreducible] Code.wp Code.wpIn wpList wpListIn wpQuiet Calls CallsIn

theorem c_laws_FnExactProbeNearest {Kj : List (List Int)} {Kk : List (Int × (List Int) × Int)} {Kl : List Int} {Km : Int} {Kn : Int} {Ko : Option Addr} {Kp : Nat} {Kq : Option Addr} {Kr : Nat} {Ks : Option Addr} {Kt : Nat} {r : Bool} (h : M.laws_FnExactProbeNearest Kj Kk Kl Km Kn = some r) :
    Cal2 Tryz.prog 4 [(Sl Ko Kj Kp), (Sl Kq Kk Kr), (Sl Ks Kl Kt), (I Km), (I Kn)] [Ch.ro 0 (Sl Ko Kj Kp) Kj, Ch.ro 0 (Sl Kq Kk Kr) Kk, Ch.ro 0 (Sl Ks Kl Kt) Kl] (fun n0 v L => v = (B r) ∧ L = []) := by
 refine cal2 (n := 123) Tryz.func4 rfl rfl rfl rfl ?_
 intro S0 σ0 n0 hn0 H
 unfold M.laws_FnExactProbeNearest at h
 refine c_seq (rg (sa (B false) rfl (w_end (q_then (c_seq (c_seq (rg (sm (Sl Ks Kl Kt) rfl (st (v := (I (Kl.length : Int))) (rv_len Tryz.underlying23 rfl) (st (v := (B (decide (1048576 < (Kl.length : Int))))) (rv_gtr (a := (Kl.length : Int)) (b := 1048576) rfl rfl) (w_end ?_)))))))))))
 refine q_then ?_
 refine cd_cond (decide (1048576 < (Kl.length : Int))) rfl (fun hb1 => ?_) (fun hb1 => ?_)
 ·replace h := bif_t hb1 h
  refine c_seq (rg (sa (B true) rfl (w_end (q_then (c_ret (q_then_r ?_))))))
  obtain rfl := sj h
  exact fin_ret (v := (B true)) (results_ok Tryz.results4 (res_tmp (v := (B true)) rfl res_nil) rfl) ⟨rfl, rfl⟩ (H.sel' [] rfl rfl)
 ·replace h := bif_f hb1 h
  refine c_skip (q_then (c_seq (rg (sa (I 1048576) rfl (w_end (q_then (c_seq (rg (sm (Sl Ko Kj Kp) rfl (sm (I 1048576) rfl ?_))))))))))
  revert h; refine br fun r2 hx3 h => ?_
  have hc4 := c_laws_szIntSS (Ad := Ko) (Ae := Kp) hx3
  refine st_call (cx_call hc4 (ent_f hc4.fn rfl) hn0 (H.sel' [0, 0, 1, 2] rfl rfl : Hp S0 σ0 _ ([_] ++ _))) wn ?_
  rintro _ σ5 ⟨_, ⟨rfl, rfl⟩, H, -⟩
  replace H : Hp _ _ _ [_, _, _] := H
  refine sa (I r2) rfl (w_end (q_then (c_seq (c_seq (rg (sm (I r2) rfl (st (v := (B (decide (r2 < 0)))) (rv_lss (a := r2) (b := 0) rfl rfl) (w_end (q_then ?_)))))))))
  refine cd_cond (decide (r2 < 0)) rfl (fun hb6 => ?_) (fun hb6 => ?_)
  ·replace h := bif_t hb6 h
   refine c_seq (rg (sa (B true) rfl (w_end (q_then (c_ret (q_then_r ?_))))))
   obtain rfl := sj h
   exact fin_ret (v := (B true)) (results_ok Tryz.results4 (res_tmp (v := (B true)) rfl res_nil) rfl) ⟨rfl, rfl⟩ (H.sel' [] rfl rfl)
  ·replace h := bif_f hb6 h
   refine c_skip (q_then (c_seq (rg (sm (Sl Kq Kk Kr) rfl (sm (I r2) rfl ?_)))))
   revert h; refine br fun r7 hx8 h => ?_
   have hc9 := c_laws_szItemS (Ad := Kq) (Ae := Kr) hx8
   refine st_call (cx_call hc9 (ent_f hc9.fn rfl) hn0 (H.sel' [1, 0, 1, 2] rfl rfl : Hp S0 σ0 _ ([_] ++ _))) wn ?_
   rintro _ σ10 ⟨_, ⟨rfl, rfl⟩, H, -⟩
   replace H : Hp _ _ _ [_, _, _] := H
   refine sa (I r7) rfl (w_end (q_then (c_seq (c_seq (rg (sm (I r7) rfl (st (v := (B (decide (r7 < 0)))) (rv_lss (a := r7) (b := 0) rfl rfl) (w_end (q_then ?_)))))))))
   refine cd_cond (decide (r7 < 0)) rfl (fun hb11 => ?_) (fun hb11 => ?_)
   ·replace h := bif_t hb11 h
    refine c_seq (rg (sa (B true) rfl (w_end (q_then (c_ret (q_then_r ?_))))))
    obtain rfl := sj h
    exact fin_ret (v := (B true)) (results_ok Tryz.results4 (res_tmp (v := (B true)) rfl res_nil) rfl) ⟨rfl, rfl⟩ (H.sel' [] rfl rfl)
   ·replace h := bif_f hb11 h
    refine c_skip (q_then (c_seq (rg (sm (Sl Ko Kj Kp) rfl ?_))))
    revert h; refine br fun r12 hx13 h => ?_
    have hc14 := c_laws_toIntSS (Ad := Ko) (Ae := Kp) hx13
    refine st_call (cx_call hc14 (ent_f hc14.fn rfl) hn0 (H.sel' [0, 0, 1, 2] rfl rfl : Hp S0 σ0 _ ([_] ++ _))) wn ?_
    rintro _ σ19 ⟨_, ⟨a15, c16, K17, rfl, rfl, hK18⟩, H, -⟩
    replace H : Hp _ _ _ [_, _, _, _] := H
    refine sm (Sl Kq Kk Kr) rfl ?_
    revert h; refine br fun r20 hx21 h => ?_
    have hc22 := c_laws_toItemS (Ad := Kq) (Ae := Kr) hx21
    refine st_call (cx_call hc22 (ent_f hc22.fn rfl) hn0 (H.sel' [2, 0, 1, 2, 3] rfl rfl : Hp S0 σ0 _ ([_] ++ _))) wn ?_
    rintro _ σ27 ⟨_, ⟨a23, c24, K25, rfl, rfl, hK26⟩, H, -⟩
    replace H : Hp _ _ _ [_, _, _, _, _] := H
    refine sm (Sl Ks Kl Kt) rfl ?_
    revert h; refine br fun r28 hx29 h => ?_
    have hc30 := c_laws_toIntS (Ad := Ks) (Ae := Kt) hx29
    refine st_call (cx_call hc30 (ent_f hc30.fn rfl) hn0 (H.sel' [4, 0, 1, 2, 3, 4] rfl rfl : Hp S0 σ0 _ ([_] ++ _))) wn ?_
    rintro _ σ34 ⟨_, ⟨a31, c32, rfl, rfl, ht33⟩, H, -⟩
    replace H : Hp _ _ _ [_, _, _, _, _, _] := H
    refine sm (I Km) rfl (sm (I Kn) rfl ?_)
    obtain ⟨σ35, hw36, H, -⟩ := H.pub 0 rfl (Nat.le_refl _)
    rw [← hw36]; clear hw36
    replace H := H.roLow 0 0 rfl (Nat.zero_le _)
    revert h; refine br fun r37 hx38 h => ?_
    have hc39 := c_spec_ProbeNearest (Bt := a15) (Bu := c16) (Cd := a23) (Ce := c24) (Bf := a31) (Bg := c32) hx38
    have hle := Nat.le_trans hn0 H.size
    refine st_call (cx_lend (Loan.lendB hK18.lends (Loan.lendB hK26.lends (Loan.same Loan.nil))) hc39 (ent_f hc39.fn rfl) (show Hp S0 σ0 _ ([Ch.big K17, Ch.big K25] ++ ([Ch.ro 0 (Sl a31 r28 c32) r28] ++ [Ch.ro 0 (Sl a31 r28 c32) r28, Ch.ro n0 (Sl a31 r28 c32) r28, Ch.ro 0 (Sl Ko Kj Kp) Kj, Ch.ro 0 (Sl Kq Kk Kr) Kk, Ch.ro 0 (Sl Ks Kl Kt) Kl])) from (H.sel' [3, 2, 0, 0, 1, 4, 5, 6] rfl rfl)) (by rintro _ _ _ ⟨_, _, rfl, rfl⟩; exact ⟨Ab.ownSc, trivial⟩)) wn ?_
    rintro _ σ42 ⟨_, ⟨a40, c41, rfl, rfl⟩, H, -, -⟩
    replace H : Hp _ _ _ [_, _, _, _, _, _, _, _] := H
    replace H := H.ownLow 0 n0 n0 rfl hle hle
    clear hle
    replace H : Hp _ _ _ [_, _, _, _, _, _, _, _] := H
    replace H : Hp S0 σ0 σ42 [Ch.own n0 n0 (Sl a40 r37 c41) r37, Ch.ro 0 (Sl Ko Kj Kp) Kj, Ch.ro 0 (Sl Kq Kk Kr) Kk, Ch.ro 0 (Sl Ks Kl Kt) Kl] := H.sel' [0, 5, 6, 7] rfl rfl
    refine sa (Sl a40 r37 c41) rfl (w_end (q_then (c_seq (rg (sm (Sl Ko Kj Kp) rfl ?_)))))
    revert h; refine br fun r43 hx44 h => ?_
    have hc45 := c_laws_toIntSS (Ad := Ko) (Ae := Kp) hx44
    refine st_call (cx_call hc45 (ent_f hc45.fn rfl) hn0 (H.sel' [1, 0, 1, 2, 3] rfl rfl : Hp S0 σ0 _ ([_] ++ _))) wn ?_
    rintro _ σ50 ⟨_, ⟨a46, c47, K48, rfl, rfl, hK49⟩, H, -⟩
    replace H : Hp _ _ _ [_, _, _, _, _] := H
    refine sa (Sl a46 r43 c47) rfl (w_end (q_then (c_seq (rg (sm (Sl Kq Kk Kr) rfl ?_)))))
    revert h; refine br fun r51 hx52 h => ?_
    have hc53 := c_laws_toItemS (Ad := Kq) (Ae := Kr) hx52
    refine st_call (cx_call hc53 (ent_f hc53.fn rfl) hn0 (H.sel' [3, 0, 1, 2, 3, 4] rfl rfl : Hp S0 σ0 _ ([_] ++ _))) wn ?_
    rintro _ σ58 ⟨_, ⟨a54, c55, K56, rfl, rfl, hK57⟩, H, -⟩
    replace H : Hp _ _ _ [_, _, _, _, _, _] := H
    refine sa (Sl a54 r51 c55) rfl (w_end (q_then (c_seq (rg (sm (Sl Ks Kl Kt) rfl ?_)))))
    revert h; refine br fun r59 hx60 h => ?_
    have hc61 := c_laws_toIntS (Ad := Ks) (Ae := Kt) hx60
    refine st_call (cx_call hc61 (ent_f hc61.fn rfl) hn0 (H.sel' [5, 0, 1, 2, 3, 4, 5] rfl rfl : Hp S0 σ0 _ ([_] ++ _))) wn ?_
    rintro _ σ65 ⟨_, ⟨a62, c63, rfl, rfl, ht64⟩, H, -⟩
    replace H : Hp _ _ _ [_, _, _, _, _, _, _] := H
    refine sa (Sl a62 r59 c63) rfl (w_end (q_then (c_seq (rg (sm (Sl a46 r43 c47) rfl (sm (Sl a54 r51 c55) rfl (sm (Sl a62 r59 c63) rfl (sm (I Km) rfl (sm (I Kn) rfl ?_)))))))))
    revert h; refine br fun r66 hx67 h => ?_
    have hc68 := c_impl_ProbeNearest (Bt := a46) (Bu := c47) (Cd := a54) (Ce := c55) (Bf := a62) (Bg := c63) hx67
    have hle := Nat.le_trans hn0 H.size
    refine st_call (cx_lend (Loan.lendB hK49.lends (Loan.lendB hK57.lends (Loan.lend Loan.nil))) hc68 (ent_f hc68.fn rfl) (show Hp S0 σ0 _ ([Ch.big K48, Ch.big K56, Ch.own n0 n0 (Sl a62 r59 c63) r59] ++ ([] ++ [Ch.own n0 n0 (Sl a40 r37 c41) r37, Ch.ro 0 (Sl Ko Kj Kp) Kj, Ch.ro 0 (Sl Kq Kk Kr) Kk, Ch.ro 0 (Sl Ks Kl Kt) Kl])) from (H.sel' [2, 1, 0, 3, 4, 5, 6] rfl rfl)) (by rintro _ _ _ ⟨_, _, rfl, rfl⟩; exact ⟨Ab.ownSc, trivial⟩)) wn ?_
    rintro _ σ71 ⟨_, ⟨a69, c70, rfl, rfl⟩, H, -, -⟩
    replace H : Hp _ _ _ [_, _, _, _, _, _, _, _] := H
    replace H := H.ownLow 0 0 n0 rfl (Nat.le_refl _) hle
    clear hle
    replace H : Hp _ _ _ [_, _, _, _, _, _, _, _] := H
    refine sa (Sl a69 r66 c70) rfl (w_end (q_then (c_seq (c_seq (rg (sm (Sl a69 r66 c70) rfl (sm (Sl a40 r37 c41) rfl ?_)))))))
    revert h; refine br fun r72 hx73 h => ?_
    have hc74 := c_laws_eqHitS (Ad := a69) (Ae := c70) (Ai := a40) (Aj := c41) hx73
    have hle := Nat.le_trans hn0 H.size
    refine st_call (cx_lend (Loan.lend (Loan.lend Loan.nil)) hc74 (ent_f hc74.fn rfl) (show Hp S0 σ0 _ ([Ch.own 0 n0 (Sl a69 r66 c70) r66, Ch.own n0 n0 (Sl a40 r37 c41) r37] ++ ([] ++ [Ch.big K48, Ch.big K56, Ch.own n0 n0 (Sl a62 r59 c63) r59, Ch.ro 0 (Sl Ko Kj Kp) Kj, Ch.ro 0 (Sl Kq Kk Kr) Kk, Ch.ro 0 (Sl Ks Kl Kt) Kl])) from (H.sel' [0, 4, 1, 2, 3, 5, 6, 7] rfl rfl)) (by rintro _ _ _ ⟨rfl, rfl⟩; exact trivial)) wn ?_
    rintro _ σ75 ⟨_, ⟨rfl, rfl⟩, H, -, -⟩
    replace H : Hp _ _ _ [_, _, _, _, _, _, _, _] := H
    clear hle
    replace H : Hp _ _ _ [_, _, _, _, _, _, _, _] := H
    refine st (v := (B (!r72))) (rv_not rfl) (w_end (q_then ?_))
    refine cd_cond (!r72) rfl (fun hb76 => ?_) (fun hb76 => ?_)
    ·replace h := bif_t hb76 h
     refine c_seq (rg (sa (B false) rfl (w_end (q_then (c_ret (q_then_r ?_))))))
     obtain rfl := sj h
     exact fin_ret (v := (B false)) (results_ok Tryz.results4 (res_tmp (v := (B false)) rfl res_nil) rfl) ⟨rfl, rfl⟩ (H.sel' [] rfl rfl)
    ·replace h := bif_f hb76 h
     refine c_skip (q_then (c_seq (c_seq (rg (sm (Sl a46 r43 c47) rfl (sm (Sl Ko Kj Kp) rfl ?_))))))
     revert h; refine br fun r77 hx78 h => ?_
     have hc79 := c_laws_toIntSS (Ad := Ko) (Ae := Kp) hx78
     refine st_call (cx_call hc79 (ent_f hc79.fn rfl) hn0 (H.sel' [5, 0, 1, 2, 3, 4, 5, 6, 7] rfl rfl : Hp S0 σ0 _ ([_] ++ _))) wn ?_
     rintro _ σ84 ⟨_, ⟨a80, c81, K82, rfl, rfl, hK83⟩, H, -⟩
     replace H : Hp _ _ _ [_, _, _, _, _, _, _, _, _] := H
     revert h; refine br fun r85 hx86 h => ?_
     have hc87 := c_laws_eqIntSS (Ad := a46) (Ae := c47) (Ai := a80) (Aj := c81) hx86
     have hle := Nat.le_trans hn0 H.size
     refine st_call (cx_lend (Loan.lendB hK49.lends (Loan.lendB hK83.lends Loan.nil)) hc87 (ent_f hc87.fn rfl) (show Hp S0 σ0 _ ([Ch.big K48, Ch.big K82] ++ ([] ++ [Ch.own 0 n0 (Sl a69 r66 c70) r66, Ch.own n0 n0 (Sl a40 r37 c41) r37, Ch.big K56, Ch.own n0 n0 (Sl a62 r59 c63) r59, Ch.ro 0 (Sl Ko Kj Kp) Kj, Ch.ro 0 (Sl Kq Kk Kr) Kk, Ch.ro 0 (Sl Ks Kl Kt) Kl])) from (H.sel' [3, 0, 1, 2, 4, 5, 6, 7, 8] rfl rfl)) (by rintro _ _ _ ⟨rfl, rfl⟩; exact trivial)) wn ?_
     rintro _ σ88 ⟨_, ⟨rfl, rfl⟩, H, -, -⟩
     replace H : Hp _ _ _ [_, _, _, _, _, _, _, _, _] := H
     clear hle
     replace H : Hp _ _ _ [_, _, _, _, _, _, _, _, _] := H
     replace H : Hp S0 σ0 σ88 [Ch.big K48, Ch.own 0 n0 (Sl a69 r66 c70) r66, Ch.own n0 n0 (Sl a40 r37 c41) r37, Ch.big K56, Ch.own n0 n0 (Sl a62 r59 c63) r59, Ch.ro 0 (Sl Ko Kj Kp) Kj, Ch.ro 0 (Sl Kq Kk Kr) Kk, Ch.ro 0 (Sl Ks Kl Kt) Kl] := H.sel' [0, 2, 3, 4, 5, 6, 7, 8] rfl rfl
     refine st (v := (B (!r85))) (rv_not rfl) (w_end (q_then ?_))
     refine cd_cond (!r85) rfl (fun hb89 => ?_) (fun hb89 => ?_)
     ·replace h := bif_t hb89 h
      refine c_seq (rg (sa (B false) rfl (w_end (q_then (c_ret (q_then_r ?_))))))
      obtain rfl := sj h
      exact fin_ret (v := (B false)) (results_ok Tryz.results4 (res_tmp (v := (B false)) rfl res_nil) rfl) ⟨rfl, rfl⟩ (H.sel' [] rfl rfl)
     ·replace h := bif_f hb89 h
      refine c_skip (q_then (c_seq (c_seq (rg (sm (Sl a54 r51 c55) rfl (sm (Sl Kq Kk Kr) rfl ?_))))))
      revert h; refine br fun r90 hx91 h => ?_
      have hc92 := c_laws_toItemS (Ad := Kq) (Ae := Kr) hx91
      refine st_call (cx_call hc92 (ent_f hc92.fn rfl) hn0 (H.sel' [6, 0, 1, 2, 3, 4, 5, 6, 7] rfl rfl : Hp S0 σ0 _ ([_] ++ _))) wn ?_
      rintro _ σ97 ⟨_, ⟨a93, c94, K95, rfl, rfl, hK96⟩, H, -⟩
      replace H : Hp _ _ _ [_, _, _, _, _, _, _, _, _] := H
      revert h; refine br fun r98 hx99 h => ?_
      have hc100 := c_laws_eqItemS (Ad := a54) (Ae := c55) (Ai := a93) (Aj := c94) hx99
      have hle := Nat.le_trans hn0 H.size
      refine st_call (cx_lend (Loan.lendB hK57.lends (Loan.lendB hK96.lends Loan.nil)) hc100 (ent_f hc100.fn rfl) (show Hp S0 σ0 _ ([Ch.big K56, Ch.big K95] ++ ([] ++ [Ch.big K48, Ch.own 0 n0 (Sl a69 r66 c70) r66, Ch.own n0 n0 (Sl a40 r37 c41) r37, Ch.own n0 n0 (Sl a62 r59 c63) r59, Ch.ro 0 (Sl Ko Kj Kp) Kj, Ch.ro 0 (Sl Kq Kk Kr) Kk, Ch.ro 0 (Sl Ks Kl Kt) Kl])) from (H.sel' [4, 0, 1, 2, 3, 5, 6, 7, 8] rfl rfl)) (by rintro _ _ _ ⟨rfl, rfl⟩; exact trivial)) wn ?_
      rintro _ σ101 ⟨_, ⟨rfl, rfl⟩, H, -, -⟩
      replace H : Hp _ _ _ [_, _, _, _, _, _, _, _, _] := H
      clear hle
      replace H : Hp _ _ _ [_, _, _, _, _, _, _, _, _] := H
      replace H : Hp S0 σ0 σ101 [Ch.big K56, Ch.big K48, Ch.own 0 n0 (Sl a69 r66 c70) r66, Ch.own n0 n0 (Sl a40 r37 c41) r37, Ch.own n0 n0 (Sl a62 r59 c63) r59, Ch.ro 0 (Sl Ko Kj Kp) Kj, Ch.ro 0 (Sl Kq Kk Kr) Kk, Ch.ro 0 (Sl Ks Kl Kt) Kl] := H.sel' [0, 2, 3, 4, 5, 6, 7, 8] rfl rfl
      refine st (v := (B (!r98))) (rv_not rfl) (w_end (q_then ?_))
      refine cd_cond (!r98) rfl (fun hb102 => ?_) (fun hb102 => ?_)
      ·replace h := bif_t hb102 h
       refine c_seq (rg (sa (B false) rfl (w_end (q_then (c_ret (q_then_r ?_))))))
       obtain rfl := sj h
       exact fin_ret (v := (B false)) (results_ok Tryz.results4 (res_tmp (v := (B false)) rfl res_nil) rfl) ⟨rfl, rfl⟩ (H.sel' [] rfl rfl)
      ·replace h := bif_f hb102 h
       refine c_skip (q_then (c_seq (c_seq (rg (sm (Sl a62 r59 c63) rfl (sm (Sl Ks Kl Kt) rfl ?_))))))
       revert h; refine br fun r103 hx104 h => ?_
       have hc105 := c_laws_toIntS (Ad := Ks) (Ae := Kt) hx104
       refine st_call (cx_call hc105 (ent_f hc105.fn rfl) hn0 (H.sel' [7, 0, 1, 2, 3, 4, 5, 6, 7] rfl rfl : Hp S0 σ0 _ ([_] ++ _))) wn ?_
       rintro _ σ109 ⟨_, ⟨a106, c107, rfl, rfl, ht108⟩, H, -⟩
       replace H : Hp _ _ _ [_, _, _, _, _, _, _, _, _] := H
       obtain ⟨σ110, hw111, H, -⟩ := H.pub 0 rfl (Nat.le_refl _)
       rw [← hw111]; clear hw111
       replace H := H.roLow 0 0 rfl (Nat.zero_le _)
       revert h; refine br fun r112 hx113 h => ?_
       have hc114 := c_laws_eqIntS (Ad := a62) (Ae := c63) (Ai := a106) (Aj := c107) hx113
       have hle := Nat.le_trans hn0 H.size
       refine st_call (cx_lend (Loan.lend (Loan.same Loan.nil)) hc114 (ent_f hc114.fn rfl) (show Hp S0 σ0 _ ([Ch.own n0 n0 (Sl a62 r59 c63) r59] ++ ([Ch.ro 0 (Sl a106 r103 c107) r103] ++ [Ch.ro 0 (Sl a106 r103 c107) r103, Ch.ro n0 (Sl a106 r103 c107) r103, Ch.big K56, Ch.big K48, Ch.own 0 n0 (Sl a69 r66 c70) r66, Ch.own n0 n0 (Sl a40 r37 c41) r37, Ch.ro 0 (Sl Ko Kj Kp) Kj, Ch.ro 0 (Sl Kq Kk Kr) Kk, Ch.ro 0 (Sl Ks Kl Kt) Kl])) from (H.sel' [6, 0, 0, 1, 2, 3, 4, 5, 7, 8, 9] rfl rfl)) (by rintro _ _ _ ⟨rfl, rfl⟩; exact trivial)) wn ?_
       rintro _ σ115 ⟨_, ⟨rfl, rfl⟩, H, -, -⟩
       replace H : Hp _ _ _ [_, _, _, _, _, _, _, _, _, _] := H
       clear hle
       replace H : Hp _ _ _ [_, _, _, _, _, _, _, _, _, _] := H
       replace H : Hp S0 σ0 σ115 [Ch.own n0 n0 (Sl a62 r59 c63) r59, Ch.big K56, Ch.big K48, Ch.own 0 n0 (Sl a69 r66 c70) r66, Ch.own n0 n0 (Sl a40 r37 c41) r37, Ch.ro 0 (Sl Ko Kj Kp) Kj, Ch.ro 0 (Sl Kq Kk Kr) Kk, Ch.ro 0 (Sl Ks Kl Kt) Kl] := H.sel' [0, 3, 4, 5, 6, 7, 8, 9] rfl rfl
       refine st (v := (B (!r112))) (rv_not rfl) (w_end (q_then ?_))
       refine cd_cond (!r112) rfl (fun hb116 => ?_) (fun hb116 => ?_)
       ·replace h := bif_t hb116 h
        refine c_seq (rg (sa (B false) rfl (w_end (q_then (c_ret (q_then_r ?_))))))
        obtain rfl := sj h
        exact fin_ret (v := (B false)) (results_ok Tryz.results4 (res_tmp (v := (B false)) rfl res_nil) rfl) ⟨rfl, rfl⟩ (H.sel' [] rfl rfl)
       ·replace h := bif_f hb116 h
        refine c_skip (q_then (c_seq (rg (sa (I 1) rfl (w_end (q_then (c_seq (rg (sm (Sl a46 r43 c47) rfl (sm (I 1) rfl ?_))))))))))
        revert h; refine br fun r117 hx118 h => ?_
        have hc119 := c_laws_markIntSS (Ad := a46) (Ae := c47) (hK := hK49) hx118
        refine st_call (cx_call hc119 (ent_f hc119.fn rfl) hn0 (H.sel' [2, 0, 1, 3, 4, 5, 6, 7] rfl rfl : Hp S0 σ0 _ ([_] ++ _))) wn ?_
        rintro _ σ120 ⟨_, ⟨rfl, rfl⟩, H, -⟩
        replace H : Hp _ _ _ [_, _, _, _, _, _, _] := H
        refine sa (I r117) rfl (w_end (q_then (c_seq (rg (sm (Sl a54 r51 c55) rfl (sm (I r117) rfl ?_))))))
        revert h; refine br fun r121 hx122 h => ?_
        have hc123 := c_laws_markItemS (Ad := a54) (Ae := c55) (hK := hK57) hx122
        refine st_call (cx_call hc123 (ent_f hc123.fn rfl) hn0 (H.sel' [1, 0, 2, 3, 4, 5, 6] rfl rfl : Hp S0 σ0 _ ([_] ++ _))) wn ?_
        rintro _ σ124 ⟨_, ⟨rfl, rfl⟩, H, -⟩
        replace H : Hp _ _ _ [_, _, _, _, _, _] := H
        refine sa (I r121) rfl (w_end (q_then (c_seq (rg (sm (Sl a62 r59 c63) rfl (sm (I r121) rfl ?_))))))
        replace H := H.ownLow 0 0 0 rfl (Nat.zero_le _) (Nat.zero_le _)
        revert h; refine br fun r125 hx126 h => ?_
        have hc127 := c_laws_markIntS (Ad := a62) (Ae := c63) hx126
        refine st_call (cx_call hc127 (ent_f hc127.fn rfl) hn0 (H.sel' [0, 1, 2, 3, 4, 5] rfl rfl : Hp S0 σ0 _ ([_] ++ _))) wn ?_
        rintro _ σ129 ⟨_, ⟨rfl, rfl, hn128⟩, H, -⟩
        replace H : Hp _ _ _ [_, _, _, _, _, _] := H
        have hsl : (Sl a62 r59 c63) = (Sl a62 r125.2 c63) := sl_len hn128.symm
        try rw [hsl]
        try rw [hsl] at H
        clear hsl
        refine sa (I r125.1) rfl (w_end (q_then (c_seq (c_seq ?_))))
        obtain ⟨o130, hj, h'⟩ := bind_some h
        clear h
        refine c_cut (fun e a w => e = .normal ∧ ∃ (ρ : Nat → Value) (σ : St), a = fr 123 (updL ρ [(0, (Sl Ko Kj Kp)), (1, (Sl Kq Kk Kr)), (2, (Sl Ks Kl Kt)), (3, (I Km)), (4, (I Kn)), (12, (Sl a40 r37 c41)), (16, (Sl a69 r66 c70)), (90, (B o130))]) ∧ w = σ.w ∧ Hp S0 σ0 σ [Ch.ro 0 (Sl Ko Kj Kp) Kj, Ch.ro 0 (Sl Kq Kk Kr) Kk, Ch.ro 0 (Sl Ks Kl Kt) Kl, Ch.own n0 n0 (Sl a40 r37 c41) r37, Ch.own 0 n0 (Sl a69 r66 c70) r66]) ?_ ?_
        ·clear h'
         rename _ = some o130 => h
         refine rg (sm (I r125.1) rfl (st (v := (B (decide (r125.1 < 0)))) (rv_lss (a := r125.1) (b := 0) rfl rfl) (sm (B (decide (r125.1 < 0))) rfl ?_)))
         rcases Bool.eq_false_or_eq_true (decide (r125.1 < 0)) with hb131 | hb131
         ·replace h := bif_t hb131 h
          refine st_skip (congrArg some hb131) (st_skip (congrArg some hb131) (st_skip (congrArg some hb131) (st_skip (congrArg some hb131) (st (v := (B true)) (rv_pick_t (congrArg B hb131) rfl) (w_end ?_)))))
          obtain rfl := sj h
          exact ⟨rfl, _, σ129, fr_join ⟨rfl, rfl, rfl, rfl, rfl, rfl, rfl, rfl, trivial⟩, rfl, H.sel' [3, 4, 5, 2, 1] rfl rfl⟩
         ·replace h := bif_f hb131 h
          refine st_g (v := (Sl a69 r66 c70)) (congrArg some hb131) (rv_move rfl) (st_g (v := (Sl a40 r37 c41)) (congrArg some hb131) (rv_move rfl) ?_)
          revert h; refine br fun r132 hx133 h => ?_
          have hc134 := c_laws_eqHitS (Ad := a69) (Ae := c70) (Ai := a40) (Aj := c41) hx133
          have hle := Nat.le_trans hn0 H.size
          refine st_call (cx_lend (Loan.lend (Loan.lend Loan.nil)) hc134 (ent_f hc134.fn rfl) (show Hp S0 σ0 _ ([Ch.own 0 n0 (Sl a69 r66 c70) r66, Ch.own n0 n0 (Sl a40 r37 c41) r37] ++ ([] ++ [Ch.own 0 0 (Sl a62 r125.2 c63) r125.2, Ch.ro 0 (Sl Ko Kj Kp) Kj, Ch.ro 0 (Sl Kq Kk Kr) Kk, Ch.ro 0 (Sl Ks Kl Kt) Kl])) from (H.sel' [1, 2, 0, 3, 4, 5] rfl rfl)) (by rintro _ _ _ ⟨rfl, rfl⟩; exact trivial)) (wanted_yes rfl (by exact (congrArg some hb131))) ?_
          rintro _ σ135 ⟨_, ⟨rfl, rfl⟩, H, -, -⟩
          replace H : Hp _ _ _ [_, _, _, _, _, _] := H
          clear hle
          replace H : Hp _ _ _ [_, _, _, _, _, _] := H
          refine st_g (v := (B (!r132))) (congrArg some hb131) (rv_not rfl) (st (v := (B (!r132))) (rv_pick_f (congrArg B hb131) rfl) (w_end ?_))
          obtain rfl := sj h
          exact ⟨rfl, _, σ135, fr_join ⟨rfl, rfl, rfl, rfl, rfl, rfl, rfl, rfl, trivial⟩, rfl, H.sel' [3, 4, 5, 1, 0] rfl rfl⟩
        ·clear hj
         have h := h'
         clear h' H
         rintro e a w ⟨rfl, ρ, σ136, rfl, rfl, H⟩
         refine q_then ?_
         refine cd_cond o130 rfl (fun hb137 => ?_) (fun hb137 => ?_)
         ·replace h := bif_t hb137 h
          refine c_seq (rg (sa (B false) rfl (w_end (q_then (c_ret (q_then_r ?_))))))
          obtain rfl := sj h
          exact fin_ret (v := (B false)) (results_ok Tryz.results4 (res_tmp (v := (B false)) rfl res_nil) rfl) ⟨rfl, rfl⟩ (H.sel' [] rfl rfl)
         ·replace h := bif_f hb137 h
          refine c_skip (q_then (c_seq (rg (sa (I 1) rfl (w_end (q_then (c_seq (rg (sm (Sl a69 r66 c70) rfl (sm (I 1) rfl ?_))))))))))
          replace H := H.ownLow 4 0 0 rfl (Nat.zero_le _) (Nat.zero_le _)
          revert h; refine br fun r138 hx139 h => ?_
          have hc140 := c_laws_markHitS (Ad := a69) (Ae := c70) hx139
          refine st_call (cx_call hc140 (ent_f hc140.fn rfl) hn0 (H.sel' [0, 1, 2, 3, 4] rfl rfl : Hp S0 σ0 _ ([_] ++ _))) wn ?_
          rintro _ σ142 ⟨_, ⟨rfl, rfl, hn141⟩, H, -⟩
          replace H : Hp _ _ _ [_, _, _, _, _] := H
          have hsl : (Sl a69 r66 c70) = (Sl a69 r138.2 c70) := sl_len hn141.symm
          try rw [hsl]
          try rw [hsl] at H
          clear hsl
          refine sa (I r138.1) rfl (w_end (q_then (c_seq (rg (sa (I 1) rfl (w_end (q_then (c_seq (rg (sm (Sl a69 r138.2 c70) rfl (sm (I 1) rfl ?_)))))))))))
          revert h; refine br fun r143 hx144 h => ?_
          have hc145 := c_laws_heldHitS (Ad := a69) (Ae := c70) hx144
          have hle := Nat.le_trans hn0 H.size
          refine st_call (cx_lend (Loan.lend Loan.nil) hc145 (ent_f hc145.fn rfl) (show Hp S0 σ0 _ ([Ch.own 0 0 (Sl a69 r138.2 c70) r138.2] ++ ([] ++ [Ch.ro 0 (Sl Ko Kj Kp) Kj, Ch.ro 0 (Sl Kq Kk Kr) Kk, Ch.ro 0 (Sl Ks Kl Kt) Kl, Ch.own n0 n0 (Sl a40 r37 c41) r37])) from (H.sel' [0, 1, 2, 3, 4] rfl rfl)) (by rintro _ _ _ ⟨rfl, rfl⟩; exact trivial)) wn ?_
          rintro _ σ146 ⟨_, ⟨rfl, rfl⟩, H, -, -⟩
          replace H : Hp _ _ _ [_, _, _, _, _] := H
          clear hle
          replace H : Hp _ _ _ [_, _, _, _, _] := H
          refine sa (I r143) rfl (w_end (q_then (c_seq (c_seq (rg (sm (I r143) rfl (st (v := (B (decide (r143 < 0)))) (rv_lss (a := r143) (b := 0) rfl rfl) (w_end (q_then ?_)))))))))
          refine cd_cond (decide (r143 < 0)) rfl (fun hb147 => ?_) (fun hb147 => ?_)
          ·replace h := bif_t hb147 h
           refine c_seq (rg (sa (B false) rfl (w_end (q_then (c_ret (q_then_r ?_))))))
           obtain rfl := sj h
           exact fin_ret (v := (B false)) (results_ok Tryz.results4 (res_tmp (v := (B false)) rfl res_nil) rfl) ⟨rfl, rfl⟩ (H.sel' [] rfl rfl)
          ·replace h := bif_f hb147 h
           refine c_skip (q_then (c_seq (c_seq (rg (sm (I r143) rfl (sm (I r138.1) rfl (st (v := (B (r143 != r138.1))) (rv_neq (a := r143) (b := r138.1) rfl rfl) (w_end (q_then ?_)))))))))
           refine cd_cond (r143 != r138.1) rfl (fun hb148 => ?_) (fun hb148 => ?_)
           ·replace h := bif_t hb148 h
            refine c_seq (rg (sa (B false) rfl (w_end (q_then (c_ret (q_then_r ?_))))))
            obtain rfl := sj h
            exact fin_ret (v := (B false)) (results_ok Tryz.results4 (res_tmp (v := (B false)) rfl res_nil) rfl) ⟨rfl, rfl⟩ (H.sel' [] rfl rfl)
           ·replace h := bif_f hb148 h
            refine c_skip (q_then (c_seq (rg (sm (Sl Ko Kj Kp) rfl ?_))))
            revert h; refine br fun r149 hx150 h => ?_
            have hc151 := c_laws_toIntSS (Ad := Ko) (Ae := Kp) hx150
            refine st_call (cx_call hc151 (ent_f hc151.fn rfl) hn0 (H.sel' [1, 0, 1, 2, 3, 4] rfl rfl : Hp S0 σ0 _ ([_] ++ _))) wn ?_
            rintro _ σ156 ⟨_, ⟨a152, c153, K154, rfl, rfl, hK155⟩, H, -⟩
            replace H : Hp _ _ _ [_, _, _, _, _, _] := H
            refine sm (Sl Kq Kk Kr) rfl ?_
            revert h; refine br fun r157 hx158 h => ?_
            have hc159 := c_laws_toItemS (Ad := Kq) (Ae := Kr) hx158
            refine st_call (cx_call hc159 (ent_f hc159.fn rfl) hn0 (H.sel' [3, 0, 1, 2, 3, 4, 5] rfl rfl : Hp S0 σ0 _ ([_] ++ _))) wn ?_
            rintro _ σ164 ⟨_, ⟨a160, c161, K162, rfl, rfl, hK163⟩, H, -⟩
            replace H : Hp _ _ _ [_, _, _, _, _, _, _] := H
            refine sm (Sl Ks Kl Kt) rfl ?_
            revert h; refine br fun r165 hx166 h => ?_
            have hc167 := c_laws_toIntS (Ad := Ks) (Ae := Kt) hx166
            refine st_call (cx_call hc167 (ent_f hc167.fn rfl) hn0 (H.sel' [5, 0, 1, 2, 3, 4, 5, 6] rfl rfl : Hp S0 σ0 _ ([_] ++ _))) wn ?_
            rintro _ σ171 ⟨_, ⟨a168, c169, rfl, rfl, ht170⟩, H, -⟩
            replace H : Hp _ _ _ [_, _, _, _, _, _, _, _] := H
            replace H : Hp S0 σ0 σ171 [Ch.own n0 n0 (Sl a168 r165 c169) r165, Ch.big K162, Ch.big K154, Ch.own 0 0 (Sl a69 r138.2 c70) r138.2, Ch.own n0 n0 (Sl a40 r37 c41) r37] := H.sel' [0, 1, 2, 3, 7] rfl rfl
            refine sm (I Km) rfl (sm (I Kn) rfl ?_)
            obtain ⟨σ172, hw173, H, -⟩ := H.pub 0 rfl (Nat.le_refl _)
            rw [← hw173]; clear hw173
            replace H := H.roLow 0 0 rfl (Nat.zero_le _)
            revert h; refine br fun r174 hx175 h => ?_
            have hc176 := c_impl_ProbeNearest (Bt := a152) (Bu := c153) (Cd := a160) (Ce := c161) (Bf := a168) (Bg := c169) hx175
            have hle := Nat.le_trans hn0 H.size
            refine st_call (cx_lend (Loan.lendB hK155.lends (Loan.lendB hK163.lends (Loan.same Loan.nil))) hc176 (ent_f hc176.fn rfl) (show Hp S0 σ0 _ ([Ch.big K154, Ch.big K162] ++ ([Ch.ro 0 (Sl a168 r165 c169) r165] ++ [Ch.ro 0 (Sl a168 r165 c169) r165, Ch.ro n0 (Sl a168 r165 c169) r165, Ch.own 0 0 (Sl a69 r138.2 c70) r138.2, Ch.own n0 n0 (Sl a40 r37 c41) r37])) from (H.sel' [3, 2, 0, 0, 1, 4, 5] rfl rfl)) (by rintro _ _ _ ⟨_, _, rfl, rfl⟩; exact ⟨Ab.ownSc, trivial⟩)) wn ?_
            rintro _ σ179 ⟨_, ⟨a177, c178, rfl, rfl⟩, H, -, -⟩
            replace H : Hp _ _ _ [_, _, _, _, _, _, _] := H
            replace H := H.ownLow 0 0 n0 rfl (Nat.le_refl _) hle
            clear hle
            replace H : Hp _ _ _ [_, _, _, _, _, _, _] := H
            refine sa (Sl a177 r174 c178) rfl (w_end (q_then (c_seq (c_seq (rg (sm (Sl a177 r174 c178) rfl (sm (Sl a40 r37 c41) rfl ?_)))))))
            replace H := H.ownLow 0 0 0 rfl (Nat.le_refl _) (Nat.zero_le _)
            obtain ⟨σ180, hw181, H, -⟩ := H.pub 0 rfl (Nat.le_refl _)
            rw [← hw181]; clear hw181
            obtain ⟨σ182, hw183, H, -⟩ := H.pub 6 rfl (Nat.le_refl _)
            rw [← hw183]; clear hw183
            replace H := H.roLow 0 0 rfl (Nat.zero_le _)
            revert h; refine br fun r184 hx185 h => ?_
            have hc186 := c_laws_eqHitS (Ad := a177) (Ae := c178) (Ai := a40) (Aj := c41) hx185
            refine st_call (cx_call hc186 (ent_f hc186.fn rfl) hn0 (H.sel' [2, 0, 0, 1, 2, 3, 4, 5, 6, 7] rfl rfl : Hp S0 σ0 _ ([_, _] ++ _))) wn ?_
            rintro _ σ187 ⟨_, ⟨rfl, rfl⟩, H, -⟩
            replace H : Hp _ _ _ [_, _, _, _, _, _, _, _] := H
            replace H : Hp S0 σ0 σ187 [Ch.own 0 0 (Sl a69 r138.2 c70) r138.2] := H.sel' [7] rfl rfl
            refine st (v := (B (!r184))) (rv_not rfl) (w_end (q_then ?_))
            refine cd_cond (!r184) rfl (fun hb188 => ?_) (fun hb188 => ?_)
            ·replace h := bif_t hb188 h
             refine c_seq (rg (sa (B false) rfl (w_end (q_then (c_ret (q_then_r ?_))))))
             obtain rfl := sj h
             exact fin_ret (v := (B false)) (results_ok Tryz.results4 (res_tmp (v := (B false)) rfl res_nil) rfl) ⟨rfl, rfl⟩ (H.sel' [] rfl rfl)
            ·replace h := bif_f hb188 h
             refine c_skip (q_then (c_seq (rg (sa (I 1) rfl (w_end (q_then (c_seq (rg (sm (Sl a69 r138.2 c70) rfl (sm (I 1) rfl ?_))))))))))
             obtain ⟨σ189, hw190, H, -⟩ := H.pub 0 rfl (Nat.le_refl _)
             rw [← hw190]; clear hw190
             revert h; refine br fun r191 hx192 h => ?_
             have hc193 := c_laws_heldHitS (Ad := a69) (Ae := c70) hx192
             refine st_call (cx_call hc193 (ent_f hc193.fn rfl) hn0 (H.sel' [0, 0] rfl rfl : Hp S0 σ0 _ ([_] ++ _))) wn ?_
             rintro _ σ194 ⟨_, ⟨rfl, rfl⟩, H, -⟩
             replace H : Hp _ _ _ [_] := H
             refine sa (I r191) rfl (w_end (q_then (c_seq (c_seq (rg (sm (I r191) rfl (st (v := (B (decide (r191 < 0)))) (rv_lss (a := r191) (b := 0) rfl rfl) (w_end (q_then ?_)))))))))
             refine cd_cond (decide (r191 < 0)) rfl (fun hb195 => ?_) (fun hb195 => ?_)
             ·replace h := bif_t hb195 h
              refine c_seq (rg (sa (B false) rfl (w_end (q_then (c_ret (q_then_r ?_))))))
              obtain rfl := sj h
              exact fin_ret (v := (B false)) (results_ok Tryz.results4 (res_tmp (v := (B false)) rfl res_nil) rfl) ⟨rfl, rfl⟩ (H.sel' [] rfl rfl)
             ·replace h := bif_f hb195 h
              refine c_skip (q_then (c_seq (c_seq (rg (sm (I r191) rfl (sm (I r138.1) rfl (st (v := (B (r191 != r138.1))) (rv_neq (a := r191) (b := r138.1) rfl rfl) (w_end (q_then ?_)))))))))
              refine cd_cond (r191 != r138.1) rfl (fun hb196 => ?_) (fun hb196 => ?_)
              ·replace h := bif_t hb196 h
               refine c_seq (rg (sa (B false) rfl (w_end (q_then (c_ret (q_then_r ?_))))))
               obtain rfl := sj h
               exact fin_ret (v := (B false)) (results_ok Tryz.results4 (res_tmp (v := (B false)) rfl res_nil) rfl) ⟨rfl, rfl⟩ (H.sel' [] rfl rfl)
              ·replace h := bif_f hb196 h
               refine c_skip (q_then (c_seq (rg (sa (B true) rfl (w_end (q_then (c_ret ?_)))))))
               obtain rfl := sj h
               exact fin_ret (v := (B true)) (results_ok Tryz.results4 (res_tmp (v := (B true)) rfl res_nil) rfl) ⟨rfl, rfl⟩ (H.sel' [] rfl rfl)

end Go.Vs
