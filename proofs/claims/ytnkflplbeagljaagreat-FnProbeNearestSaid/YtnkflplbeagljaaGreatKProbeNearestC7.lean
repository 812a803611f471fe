/- The functions compute what their models say. -/
import Derived.Test.YtnkflplbeagljaaGreatKProbeNearestC6
set_option linter.unusedVariables false
set_option linter.unusedSimpArgs false
set_option maxRecDepth 20000
namespace Go.Vs
open Go Go.Proofs
attribute [local irreducible] Code.wp Code.wpIn wpList wpListIn wpQuiet Calls CallsIn

theorem c_laws_FnProbeNearest {Cd : List UInt8} {Ce : Option Addr} {Cf : Nat} {r : Bool} (h : M.laws_FnProbeNearest Cd = some r) :
    Cal2 Tryz.prog 4 [(Sl Ce Cd Cf)] [Ch.ro 0 (Sl Ce Cd Cf) Cd] (fun n0 v L => v = (B r) ∧ L = []) := by
 refine cal2 (n := 76) Tryz.func4 rfl rfl rfl rfl ?_
 intro S0 σ0 n0 hn0 H
 unfold M.laws_FnProbeNearest at h
 refine c_seq (rg (sa (B false) rfl (w_end (q_then (c_seq (c_seq (rg (sm (Sl Ce Cd Cf) rfl (st (v := (I (Cd.length : Int))) (rv_len Tryz.underlying22 rfl) (st (v := (B (decide (1048576 < (Cd.length : Int))))) (rv_gtr (a := (Cd.length : Int)) (b := 1048576) rfl rfl) (w_end ?_)))))))))))
 refine q_then ?_
 refine cd_cond (decide (1048576 < (Cd.length : Int))) rfl (fun hb1 => ?_) (fun hb1 => ?_)
 ·replace h := bif_t hb1 h
  refine c_seq (rg (sa (B true) rfl (w_end (q_then (c_ret (q_then_r ?_))))))
  obtain rfl := sj h
  exact fin_ret (v := (B true)) (results_ok Tryz.results4 (res_tmp (v := (B true)) rfl res_nil) rfl) ⟨rfl, rfl⟩ (H.sel' [] rfl rfl)
 ·replace h := bif_f hb1 h
  refine c_skip (q_then (c_seq (rg (sm (Sl Ce Cd Cf) rfl ?_))))
  revert h; refine br fun r2 hx3 h => ?_
  have hc4 := c_spec_DrawProbeNearest (Ce := Ce) (Cf := Cf) hx3
  refine st_call (cx_call hc4 (ent_f hc4.fn rfl) hn0 (H.sel' [0, 0] rfl rfl : Hp S0 σ0 _ ([_] ++ _))) wn ?_
  rintro _ σ11 ⟨_, ⟨a5, c6, a7, c8, a9, c10, rfl, rfl⟩, H, -⟩
  replace H : Hp _ _ _ [_, _, _, _] := H
  refine sm (.tuple #[(Sl a5 r2.1 c6), (Sl a7 r2.2.1 c8), (Sl a9 r2.2.2.1 c10), (I r2.2.2.2.1), (I r2.2.2.2.2)]) rfl (st (v := (Sl a5 r2.1 c6)) (rv_extract rfl rfl) (st (v := (Sl a7 r2.2.1 c8)) (rv_extract rfl rfl) (st (v := (Sl a9 r2.2.2.1 c10)) (rv_extract rfl rfl) (st (v := (I r2.2.2.2.1)) (rv_extract rfl rfl) (st (v := (I r2.2.2.2.2)) (rv_extract rfl rfl) (sa (Sl a5 r2.1 c6) rfl (sa (Sl a7 r2.2.1 c8) rfl (sa (Sl a9 r2.2.2.1 c10) rfl (sa (I r2.2.2.2.1) rfl (sa (I r2.2.2.2.2) rfl (w_end ?_)))))))))))
  refine q_then (c_seq (rg (sm (Sl a5 r2.1 c6) rfl (sm (Sl a7 r2.2.1 c8) rfl (sm (Sl a9 r2.2.2.1 c10) rfl (sm (I r2.2.2.2.1) rfl (sm (I r2.2.2.2.2) rfl ?_)))))))
  revert h; refine br fun r12 hx13 h => ?_
  have hc14 := c_impl_ProbeNearest (Gc := a5) (Gd := c6) (Cr := a7) (Cs := c8) (Dj := a9) (Dk := c10) hx13
  have hle := Nat.le_trans hn0 H.size
  refine st_call (cx_lend (Loan.lend (Loan.lend (Loan.lend Loan.nil))) hc14 (ent_f hc14.fn rfl) (show Hp S0 σ0 _ ([Ch.own n0 n0 (Sl a5 r2.1 c6) r2.1, Ch.own n0 n0 (Sl a7 r2.2.1 c8) r2.2.1, Ch.own n0 n0 (Sl a9 r2.2.2.1 c10) r2.2.2.1] ++ ([] ++ [Ch.ro 0 (Sl Ce Cd Cf) Cd])) from (H.sel' [0, 1, 2, 3] rfl rfl)) (by rintro _ _ _ ⟨_, _, rfl, rfl⟩; exact ⟨Ab.ownSc, trivial⟩)) wn ?_
  rintro _ σ17 ⟨_, ⟨a15, c16, rfl, rfl⟩, H, -, -⟩
  replace H : Hp _ _ _ [_, _, _, _, _] := H
  replace H := H.ownLow 0 0 n0 rfl (Nat.le_refl _) hle
  clear hle
  replace H : Hp _ _ _ [_, _, _, _, _] := H
  refine sa (Sl a15 r12 c16) rfl (w_end (q_then (c_seq (c_seq (rg (sm (Sl a15 r12 c16) rfl (sm (Sl a5 r2.1 c6) rfl (sm (Sl a7 r2.2.1 c8) rfl (sm (Sl a9 r2.2.2.1 c10) rfl (sm (I r2.2.2.2.1) rfl (sm (I r2.2.2.2.2) rfl ?_)))))))))))
  revert h; refine br fun r18 hx19 h => ?_
  have hc20 := c_spec_ProbeNearest (Gc := a5) (Gd := c6) (Cr := a7) (Cs := c8) (Dj := a9) (Dk := c10) hx19
  have hle := Nat.le_trans hn0 H.size
  refine st_call (cx_lend (Loan.lend (Loan.lend (Loan.lend Loan.nil))) hc20 (ent_f hc20.fn rfl) (show Hp S0 σ0 _ ([Ch.own n0 n0 (Sl a5 r2.1 c6) r2.1, Ch.own n0 n0 (Sl a7 r2.2.1 c8) r2.2.1, Ch.own n0 n0 (Sl a9 r2.2.2.1 c10) r2.2.2.1] ++ ([] ++ [Ch.own 0 n0 (Sl a15 r12 c16) r12, Ch.ro 0 (Sl Ce Cd Cf) Cd])) from (H.sel' [1, 2, 3, 0, 4] rfl rfl)) (by rintro _ _ _ ⟨_, _, rfl, rfl⟩; exact ⟨Ab.ownSc, trivial⟩)) wn ?_
  rintro _ σ23 ⟨_, ⟨a21, c22, rfl, rfl⟩, H, -, -⟩
  replace H : Hp _ _ _ [_, _, _, _, _, _] := H
  replace H := H.ownLow 0 n0 n0 rfl hle hle
  clear hle
  replace H : Hp _ _ _ [_, _, _, _, _, _] := H
  obtain ⟨σ24, hw25, H, -⟩ := H.pub 0 rfl (Nat.le_refl _)
  rw [← hw25]; clear hw25
  replace H := H.roLow 0 0 rfl (Nat.zero_le _)
  revert h; refine br fun r26 hx27 h => ?_
  have hc28 := c_laws_equalHits (Ad := a15) (Ae := c16) (Af := a21) (Ag := c22) hx27
  have hle := Nat.le_trans hn0 H.size
  refine st_call (cx_lend (Loan.lend (Loan.same Loan.nil)) hc28 (ent_f hc28.fn rfl) (show Hp S0 σ0 _ ([Ch.own 0 n0 (Sl a15 r12 c16) r12] ++ ([Ch.ro 0 (Sl a21 r18 c22) r18] ++ [Ch.ro 0 (Sl a21 r18 c22) r18, Ch.ro n0 (Sl a21 r18 c22) r18, Ch.own n0 n0 (Sl a5 r2.1 c6) r2.1, Ch.own n0 n0 (Sl a7 r2.2.1 c8) r2.2.1, Ch.own n0 n0 (Sl a9 r2.2.2.1 c10) r2.2.2.1, Ch.ro 0 (Sl Ce Cd Cf) Cd])) from (H.sel' [5, 0, 0, 1, 2, 3, 4, 6] rfl rfl)) (by rintro _ _ _ ⟨rfl, rfl⟩; exact trivial)) wn ?_
  rintro _ σ29 ⟨_, ⟨rfl, rfl⟩, H, -, -⟩
  replace H : Hp _ _ _ [_, _, _, _, _, _, _] := H
  clear hle
  replace H : Hp _ _ _ [_, _, _, _, _, _, _] := H
  refine st (v := (B (!r26))) (rv_not rfl) (w_end (q_then ?_))
  refine cd_cond (!r26) rfl (fun hb30 => ?_) (fun hb30 => ?_)
  ·replace h := bif_t hb30 h
   refine c_seq (rg (sa (B false) rfl (w_end (q_then (c_ret (q_then_r ?_))))))
   obtain rfl := sj h
   exact fin_ret (v := (B false)) (results_ok Tryz.results4 (res_tmp (v := (B false)) rfl res_nil) rfl) ⟨rfl, rfl⟩ (H.sel' [] rfl rfl)
  ·replace h := bif_f hb30 h
   refine c_skip (q_then (c_seq (rg (sm (Sl a5 r2.1 c6) rfl (sm (Sl a9 r2.2.2.1 c10) rfl (sm (I r2.2.2.2.1) rfl ?_))))))
   revert h; refine br fun r31 hx32 h => ?_
   have hc33 := c_impl_ProbeOrder (Gc := a5) (Gd := c6) (Ge := a9) (Gf := c10) hx32
   have hle := Nat.le_trans hn0 H.size
   refine st_call (cx_lend (Loan.lend (Loan.lend Loan.nil)) hc33 (ent_f hc33.fn rfl) (show Hp S0 σ0 _ ([Ch.own n0 n0 (Sl a5 r2.1 c6) r2.1, Ch.own n0 n0 (Sl a9 r2.2.2.1 c10) r2.2.2.1] ++ ([] ++ [Ch.own 0 n0 (Sl a15 r12 c16) r12, Ch.ro 0 (Sl a21 r18 c22) r18, Ch.ro n0 (Sl a21 r18 c22) r18, Ch.own n0 n0 (Sl a7 r2.2.1 c8) r2.2.1, Ch.ro 0 (Sl Ce Cd Cf) Cd])) from (H.sel' [3, 5, 0, 1, 2, 4, 6] rfl rfl)) (by rintro _ _ _ ⟨_, _, rfl, rfl⟩; exact ⟨Ab.ownSc, trivial⟩)) wn ?_
   rintro _ σ36 ⟨_, ⟨a34, c35, rfl, rfl⟩, H, -, -⟩
   replace H : Hp _ _ _ [_, _, _, _, _, _, _, _] := H
   replace H := H.ownLow 0 0 n0 rfl (Nat.le_refl _) hle
   clear hle
   replace H : Hp _ _ _ [_, _, _, _, _, _, _, _] := H
   replace H : Hp S0 σ0 σ36 [Ch.own 0 n0 (Sl a34 r31 c35) r31, Ch.own n0 n0 (Sl a5 r2.1 c6) r2.1, Ch.own n0 n0 (Sl a9 r2.2.2.1 c10) r2.2.2.1, Ch.own 0 n0 (Sl a15 r12 c16) r12, Ch.own n0 n0 (Sl a7 r2.2.1 c8) r2.2.1] := H.sel' [0, 1, 2, 3, 6] rfl rfl
   refine sa (Sl a34 r31 c35) rfl (w_end (q_then (c_seq (c_seq (rg (sa (I 0) rfl (w_end (q_then ?_))))))))
   obtain ⟨o37, hj, h'⟩ := bind_some h
   clear h
   refine c_cut (fun e a w => (∃ t, o37 = (.inl t) ∧ e = .normal ∧ ∃ (ρ : Nat → Value) (σ : St), a = fr 76 (updL ρ [(8, (Sl a15 r12 c16))]) ∧ w = σ.w ∧ Hp S0 σ0 σ [Ch.own 0 n0 (Sl a15 r12 c16) r12]) ∨ (∃ t, o37 = (.inr t) ∧ e = .ret ∧ ∃ (ρ : Nat → Value) (σ : St), a = fr 76 (updL ρ [(2, (B t))]) ∧ w = σ.w ∧ Hp S0 σ0 σ [])) ?_ ?_
   ·clear h'
    rename _ = some o37 => h
    refine c_blk ?_
    obtain ⟨σ39, hw40, H, -⟩ := H.pub 1 rfl (Nat.le_refl _)
    rw [← hw40]; clear hw40
    obtain ⟨σ41, hw42, H, -⟩ := H.pub 4 rfl (Nat.le_refl _)
    rw [← hw42]; clear hw42
    obtain ⟨σ43, hw44, H, -⟩ := H.pub 3 rfl (Nat.le_refl _)
    rw [← hw44]; clear hw44
    refine wp_loopM _ h (fun s38 a w => ∃ (ρ : Nat → Value) (σ : St), a = fr 76 (updL ρ [(3, (Sl a5 r2.1 c6)), (4, (Sl a7 r2.2.1 c8)), (5, (Sl a9 r2.2.2.1 c10)), (8, (Sl a15 r12 c16)), (9, (Sl a34 r31 c35)), (10, (I s38))]) ∧ w = σ.w ∧ Hp S0 σ0 σ [Ch.ro n0 (Sl a5 r2.1 c6) r2.1, Ch.ro n0 (Sl a7 r2.2.1 c8) r2.2.1, Ch.ro n0 (Sl a9 r2.2.2.1 c10) r2.2.2.1, Ch.own 0 n0 (Sl a15 r12 c16) r12, Ch.own 0 n0 (Sl a34 r31 c35) r31]) ⟨_, σ43, fr_join ⟨rfl, rfl, rfl, rfl, rfl, rfl, trivial⟩, rfl, H.sel' [2, 1, 0, 4, 3] rfl rfl⟩ ?_
    clear h H
    rintro s38 a w o ⟨ρ, σ45, rfl, rfl, H⟩ h hres
    refine c_seq (c_seq (rg (sm (I s38) rfl (sm (Sl a15 r12 c16) rfl (st (v := (I (r12.length : Int))) (rv_len Tryz.underlying27 rfl) (st (v := (B (decide (s38 < (r12.length : Int))))) (rv_lss (a := s38) (b := (r12.length : Int)) rfl rfl) (w_end (q_then ?_))))))))
    refine cd_cond (decide (s38 < (r12.length : Int))) rfl (fun hb46 => ?_) (fun hb46 => ?_)
    ·replace h := bif_t hb46 h
     refine c_skip (q_then (c_seq (c_blk (c_seq (rg (sm (Sl a7 r2.2.1 c8) rfl (sm (Sl a15 r12 c16) rfl (sm (I s38) rfl ?_))))))))
     revert h; refine br fun x47 hx48 h => ?_
     obtain ⟨b50, o51, hi49, -⟩ := (H.own 3 rfl).ix hx48
     refine st (v := (pt b50 o51)) (rv_ix Tryz.underlying27 ti44 rfl rfl hi49) (st (v := (pt b50 (o51 + 0))) (rv_fieldAddr (off := 0) (ft := 3) Tryz.underlying44 rfl ti3 rfl rfl) ?_)
     have hc52 := ((H.own 3 rfl).at hx48 hi49).fst.int
     refine st (v := (I x47.1)) (rv_load1 Tryz.underlying3 rfl rfl hc52) ?_
     replace H := H.roLow 1 0 rfl (Nat.zero_le _)
     revert h; refine br fun r53 hx54 h => ?_
     have hc55 := c_laws_itemOf (Aj := a7) (Ak := c8) hx54
     refine st_call (cx_call hc55 (ent_f hc55.fn rfl) hn0 (H.sel' [0, 0, 1, 2, 3, 4, 5] rfl rfl : Hp S0 σ0 _ ([_] ++ _))) wn ?_
     rintro _ σ58 ⟨_, ⟨a56, c57, rfl, rfl⟩, H, -⟩
     replace H : Hp _ _ _ [_, _, _, _, _, _, _] := H
     refine st_ex (ex_alloc (cs := [(I 0), (.slice none 0 0), (I 0)]) H hn0 ti33 rfl) wn ?_
     rintro _ σ60 ⟨b59, rfl, H, -⟩
     replace H : Hp S0 σ0 σ60 [Ch.bx n0 b59 0 [(I 0), (.slice none 0 0), (I 0)] [] [], Ch.ro 0 (Sl a56 r53.2.1 c57) r53.2.1, Ch.ro n0 (Sl a5 r2.1 c6) r2.1, Ch.ro n0 (Sl a7 r2.2.1 c8) r2.2.1, Ch.ro n0 (Sl a9 r2.2.2.1 c10) r2.2.2.1, Ch.own 0 n0 (Sl a15 r12 c16) r12, Ch.own 0 n0 (Sl a34 r31 c35) r31] := H.sel' [0, 1, 3, 4, 5, 6, 7] rfl rfl
     refine st_exS (ex_store_box (k := 0) (cs := [(I 0), (.slice none 0 0), (I 0)]) (vs := [(I r53.1), (Sl a56 r53.2.1 c57), (I r53.2.2)]) (cs' := [(I r53.1), (Sl a56 r53.2.1 c57), (I r53.2.2)]) H (i := 0) rfl ti33 rfl rfl rfl rfl rfl (Nat.le_of_ble_eq_true rfl) (by simp [plain]) rfl) wn ?_
     rintro σ61 ⟨H, -⟩
     refine w_end (q_then (c_seq ?_))
     obtain ⟨o62, hj, h'⟩ := bind_some h
     clear h
     refine c_cut (fun e a w => e = .normal ∧ ∃ (ρ : Nat → Value) (σ : St), a = fr 76 (updL ρ [(3, (Sl a5 r2.1 c6)), (4, (Sl a7 r2.2.1 c8)), (5, (Sl a9 r2.2.2.1 c10)), (8, (Sl a15 r12 c16)), (9, (Sl a34 r31 c35)), (10, (I s38)), (73, (B o62))]) ∧ w = σ.w ∧ Hp S0 σ0 σ [Ch.ro n0 (Sl a5 r2.1 c6) r2.1, Ch.ro n0 (Sl a7 r2.2.1 c8) r2.2.1, Ch.ro n0 (Sl a9 r2.2.2.1 c10) r2.2.2.1, Ch.own 0 n0 (Sl a15 r12 c16) r12, Ch.own 0 n0 (Sl a34 r31 c35) r31]) ?_ ?_
     ·clear h'
      rename _ = some o62 => h
      have hc63 := H.cell (u := (Sl a56 r53.2.1 c57)) (o' := 1) 0 1 rfl rfl rfl
      replace H := H.roLow 4 0 rfl (Nat.zero_le _)
      revert h; refine br fun r64 hx65 h => ?_
      have hc66 := c_impl_Distance (Bb := a56) (Bc := c57) (Bd := a9) (Be := c10) hx65
      revert h; refine br fun x67 hx68 h => ?_
      obtain ⟨b70, o71, hi69, -⟩ := (H.own 6 rfl).ix hx68
      have hc72 := ((H.own 6 rfl).at hx68 hi69).snd.int
      rcases Bool.eq_false_or_eq_true (r64 != x67.2) with hb73 | hb73
      ·replace h := bif_t hb73 h
       have Hs := H
       refine rg2 (σ := σ61) (Nm := Unit) 16 [3] [[false], [true]] [[(0, 0)], [(0, 0)], [(0, 0)], [(0, 1)], [(0, 0), (1, 1)], [(0, 0), (1, 1)], [(0, 0), (1, 1)], [(0, 0), (1, 1)], [(0, 0), (1, 1)], [(1, 1)], [(1, 1)], [(1, 1)], [(1, 1)], [(1, 1)], [(1, 1)], [(1, 1)]] 1 [fun _ => fun σm => Hp S0 σ0 σm [Ch.ro 0 (Sl a9 r2.2.2.1 c10) r2.2.2.1, Ch.bx n0 b59 0 [(I r53.1), (Sl a56 r53.2.1 c57), (I r53.2.2)] [] [], Ch.ro 0 (Sl a56 r53.2.1 c57) r53.2.1, Ch.ro n0 (Sl a5 r2.1 c6) r2.1, Ch.ro n0 (Sl a7 r2.2.1 c8) r2.2.1, Ch.ro n0 (Sl a9 r2.2.2.1 c10) r2.2.2.1, Ch.own 0 n0 (Sl a15 r12 c16) r12, Ch.own 0 n0 (Sl a34 r31 c35) r31] ∧ Md (cov []) σ61 σm, fun _ => fun σm => Hp S0 σ0 σm [Ch.ro 0 (Sl a9 r2.2.2.1 c10) r2.2.2.1, Ch.bx n0 b59 0 [(I r53.1), (Sl a56 r53.2.1 c57), (I r53.2.2)] [] [], Ch.ro 0 (Sl a56 r53.2.1 c57) r53.2.1, Ch.ro n0 (Sl a5 r2.1 c6) r2.1, Ch.ro n0 (Sl a7 r2.2.1 c8) r2.2.1, Ch.ro n0 (Sl a9 r2.2.2.1 c10) r2.2.2.1, Ch.own 0 n0 (Sl a15 r12 c16) r12, Ch.own 0 n0 (Sl a34 r31 c35) r31] ∧ Md (cov []) σ61 σm] [fun _ => (pt b59 1), fun _ => (Sl a56 r53.2.1 c57), fun _ => (Sl a9 r2.2.2.1 c10), fun _ => (I r64), fun _ => (Sl a15 r12 c16), fun _ => (I s38), fun _ => (pt b70 o71), fun _ => (pt b70 (o71 + 1)), fun _ => (I x67.2), fun _ => (B (r64 != x67.2)), fun _ => (B (r64 != x67.2)), fun _ => undef, fun _ => undef, fun _ => undef, fun _ => undef, fun _ => undef] () (by kernel_rfl) (by kernel_rfl) ?_ ?_ ?_
       ·intro σm m0
        exact ⟨H.grow (m0.mono fun _ h => h.elim), m0⟩
       ·refine ac rfl (by
          intro k _nm ρ σm hJ hoff hdep
          have e11 := look_off (N := 76) (hoff 11 rfl) rfl
          exact dp_v (v := (pt b59 1)) wn (rv_fieldAddr (off := 1) (ft := 24) Tryz.underlying33 rfl ti24 rfl e11) rfl hJ) ?_
        refine all_cons (by
          refine ⟨?_, ?_⟩
          ·intro _nm ρ σm hJ hoff hdep
           have e55 := hdep 0 rfl rfl 55 rfl
           obtain ⟨H, m⟩ := id hJ
           have hc63 := H.cell (u := (Sl a56 r53.2.1 c57)) (o' := 1) 1 1 rfl rfl rfl
           exact dp_v (v := (Sl a56 r53.2.1 c57)) wn (rv_load1 Tryz.underlying24 rfl e55 hc63) rfl hJ
          trivial) ?_
        refine ac rfl (by
          intro k _nm ρ σm hJ hoff hdep
          have e5 := look_off (N := 76) (hoff 5 rfl) rfl
          exact dp_v (v := (Sl a9 r2.2.2.1 c10)) wn (rv_move e5) rfl hJ) ?_
        refine all_cons (by
          refine ⟨?_, ?_⟩
          ·intro _nm ρ σm hJ hoff hdep
           have e56 : look 76 ρ 56 = (Sl a56 r53.2.1 c57) := hdep 1 rfl rfl 56 rfl
           have e57 : look 76 ρ 57 = (Sl a9 r2.2.2.1 c10) := hdep 2 rfl rfl 57 rfl
           obtain ⟨H, m⟩ := id hJ
           refine dp_cx wn (cx_call hc66 (ent_f hc66.fn (by show [(I 3), look 76 ρ 56, look 76 ρ 57] = _; rw [e56, e57])) hn0 (H.sel' [2, 0, 0, 1, 2, 3, 4, 5, 6, 7] rfl rfl : Hp S0 σ0 _ ([_, _] ++ _))) ?_
           rintro _ σq ⟨_, ⟨rfl, rfl⟩, H2, m2⟩
           exact ⟨_, (), rfl, rfl, ⟨H2.sel' [0, 1, 2, 3, 4, 5, 6, 7] rfl rfl, m.comp0 (m2.mono (fun i h => by simp [cov, Ch.ro] at h))⟩, stab [0, 1, 2, 4, 5, 6, 7, 8] (by kernel_rfl) ⟨rfl, rfl, rfl, rfl, rfl, rfl, rfl, rfl, trivial⟩⟩
          trivial) ?_
        refine ac rfl (by
          intro k _nm ρ σm hJ hoff hdep
          have e8 := look_off (N := 76) (hoff 8 rfl) rfl
          exact dp_v (v := (Sl a15 r12 c16)) wn (rv_move e8) rfl hJ) ?_
        refine ac rfl (by
          intro k _nm ρ σm hJ hoff hdep
          have e10 := look_off (N := 76) (hoff 10 rfl) rfl
          exact dp_v (v := (I s38)) wn (rv_move e10) rfl hJ) ?_
        refine ac rfl (by
          intro k _nm ρ σm hJ hoff hdep
          have e59 := hdep 4 rfl rfl 59 rfl
          have e60 := hdep 5 rfl rfl 60 rfl
          exact dp_v (v := (pt b70 o71)) wn (rv_ix Tryz.underlying27 ti44 e59 e60 hi69) rfl hJ) ?_
        refine ac rfl (by
          intro k _nm ρ σm hJ hoff hdep
          have e61 := hdep 6 rfl rfl 61 rfl
          exact dp_v (v := (pt b70 (o71 + 1))) wn (rv_fieldAddr (off := 1) (ft := 3) Tryz.underlying44 rfl ti3 rfl e61) rfl hJ) ?_
        refine all_cons (by
          refine ⟨?_, ?_⟩
          ·intro _nm ρ σm hJ hoff hdep
           have e62 := hdep 7 rfl rfl 62 rfl
           obtain ⟨H, m⟩ := id hJ
           have hc72 := ((H.own 6 rfl).at hx68 hi69).snd.int
           exact dp_v (v := (I x67.2)) wn (rv_load1 Tryz.underlying3 rfl e62 hc72) rfl hJ
          refine ⟨?_, ?_⟩
          ·intro _nm ρ σm hJ hoff hdep
           have e62 := hdep 7 rfl rfl 62 rfl
           obtain ⟨H, m⟩ := id hJ
           have hc72 := ((H.own 6 rfl).at hx68 hi69).snd.int
           exact dp_v (v := (I x67.2)) wn (rv_load1 Tryz.underlying3 rfl e62 hc72) rfl hJ
          trivial) ?_
        refine ac rfl (by
          intro k _nm ρ σm hJ hoff hdep
          have e58 := hdep 3 rfl rfl 58 rfl
          have e63 := hdep 8 rfl rfl 63 rfl
          exact dp_v (v := (B (r64 != x67.2))) wn (rv_neq (a := r64) (b := x67.2) e58 e63) rfl hJ) ?_
        refine ac rfl (by
          intro k _nm ρ σm hJ hoff hdep
          have e64 := hdep 9 rfl rfl 64 rfl
          exact dp_v (v := (B (r64 != x67.2))) wn (rv_move e64) rfl hJ) ?_
        refine ac rfl (by
          intro k _nm ρ σm hJ hoff hdep
          have e65 := hdep 10 rfl rfl 65 rfl
          exact dp_skip (wanted_no rfl (yv_of rfl (e65.trans (congrArg B hb73)))) rfl hJ) ?_
        refine ac rfl (by
          intro k _nm ρ σm hJ hoff hdep
          have e65 := hdep 10 rfl rfl 65 rfl
          exact dp_skip (wanted_no rfl (yv_of rfl (e65.trans (congrArg B hb73)))) rfl hJ) ?_
        refine ac rfl (by
          intro k _nm ρ σm hJ hoff hdep
          have e65 := hdep 10 rfl rfl 65 rfl
          exact dp_skip (wanted_no rfl (yv_of rfl (e65.trans (congrArg B hb73)))) rfl hJ) ?_
        refine ac rfl (by
          intro k _nm ρ σm hJ hoff hdep
          have e65 := hdep 10 rfl rfl 65 rfl
          exact dp_skip (wanted_no rfl (yv_of rfl (e65.trans (congrArg B hb73)))) rfl hJ) ?_
        refine ac rfl (by
          intro k _nm ρ σm hJ hoff hdep
          have e65 := hdep 10 rfl rfl 65 rfl
          exact dp_skip (wanted_no rfl (yv_of rfl (e65.trans (congrArg B hb73)))) rfl hJ) ?_
        exact all_nil
       ·intro _nm ρ σ74 hJ hoff hrel
        have e3 := look_off (N := 76) (hoff 3 rfl) rfl
        have e4 := look_off (N := 76) (hoff 4 rfl) rfl
        have e5 := look_off (N := 76) (hoff 5 rfl) rfl
        have e8 := look_off (N := 76) (hoff 8 rfl) rfl
        have e9 := look_off (N := 76) (hoff 9 rfl) rfl
        have e10 := look_off (N := 76) (hoff 10 rfl) rfl
        have e65 := hrel 10 rfl 65 rfl
        have e66 := hrel 11 rfl 66 rfl
        have e70 := hrel 15 rfl 70 rfl
        obtain ⟨H, -⟩ := (show Hp S0 σ0 σ74 [Ch.ro 0 (Sl a9 r2.2.2.1 c10) r2.2.2.1, Ch.bx n0 b59 0 [(I r53.1), (Sl a56 r53.2.1 c57), (I r53.2.2)] [] [], Ch.ro 0 (Sl a56 r53.2.1 c57) r53.2.1, Ch.ro n0 (Sl a5 r2.1 c6) r2.1, Ch.ro n0 (Sl a7 r2.2.1 c8) r2.2.1, Ch.ro n0 (Sl a9 r2.2.2.1 c10) r2.2.2.1, Ch.own 0 n0 (Sl a15 r12 c16) r12, Ch.own 0 n0 (Sl a34 r31 c35) r31] ∧ Md (cov []) σ61 σ74 from hJ)
        clear hJ Hs
        rw [fr_lookL (L := [(3, (Sl a5 r2.1 c6)), (4, (Sl a7 r2.2.1 c8)), (5, (Sl a9 r2.2.2.1 c10)), (8, (Sl a15 r12 c16)), (9, (Sl a34 r31 c35)), (10, (I s38)), (65, (B (r64 != x67.2))), (66, undef), (70, undef)]) ⟨e3, e4, e5, e8, e9, e10, e65, e66, e70, trivial⟩]
        clear hoff hrel e3 e4 e5 e8 e9 e10 e65 e66 e70
        refine st_skip (congrArg some hb73) (st_skip (congrArg some hb73) (st (v := (B true)) (rv_pick_t (congrArg B hb73) rfl) (w_end ?_)))
        obtain rfl := sj h
        exact ⟨rfl, _, σ74, fr_join ⟨rfl, rfl, rfl, rfl, rfl, rfl, rfl, trivial⟩, rfl, H.sel' [3, 4, 5, 6, 7] rfl rfl⟩
      ·replace h := bif_f hb73 h
       have hc75 := H.cell (u := (Sl a56 r53.2.1 c57)) (o' := 1) 1 1 rfl rfl rfl
       replace H := H.roLow 3 0 rfl (Nat.zero_le _)
       revert h; refine br fun r76 hx77 h => ?_
       have hc78 := c_impl_CentreOf (Gc := a5) (Gd := c6) (Ge := a56) (Gf := c57) hx77
       have Hs := H
       refine rg2 (σ := σ61) (Nm := Unit) 16 [3, 15] [[false, false], [true, false], [true, true]] [[(0, 0)], [(0, 0)], [(0, 0)], [(0, 1)], [(0, 0), (1, 1)], [(0, 0), (1, 1)], [(0, 0), (1, 1)], [(0, 0), (1, 1)], [(0, 0), (1, 1)], [(1, 1)], [(1, 1)], [(1, 1), (2, 2)], [(1, 1)], [(1, 1)], [(1, 1)], [(1, 2)]] 2 [fun _ => fun σm => Hp S0 σ0 σm [Ch.ro 0 (Sl a5 r2.1 c6) r2.1, Ch.ro 0 (Sl a9 r2.2.2.1 c10) r2.2.2.1, Ch.bx n0 b59 0 [(I r53.1), (Sl a56 r53.2.1 c57), (I r53.2.2)] [] [], Ch.ro 0 (Sl a56 r53.2.1 c57) r53.2.1, Ch.ro n0 (Sl a5 r2.1 c6) r2.1, Ch.ro n0 (Sl a7 r2.2.1 c8) r2.2.1, Ch.ro n0 (Sl a9 r2.2.2.1 c10) r2.2.2.1, Ch.own 0 n0 (Sl a15 r12 c16) r12, Ch.own 0 n0 (Sl a34 r31 c35) r31] ∧ Md (cov []) σ61 σm, fun _ => fun σm => Hp S0 σ0 σm [Ch.ro 0 (Sl a5 r2.1 c6) r2.1, Ch.ro 0 (Sl a9 r2.2.2.1 c10) r2.2.2.1, Ch.bx n0 b59 0 [(I r53.1), (Sl a56 r53.2.1 c57), (I r53.2.2)] [] [], Ch.ro 0 (Sl a56 r53.2.1 c57) r53.2.1, Ch.ro n0 (Sl a5 r2.1 c6) r2.1, Ch.ro n0 (Sl a7 r2.2.1 c8) r2.2.1, Ch.ro n0 (Sl a9 r2.2.2.1 c10) r2.2.2.1, Ch.own 0 n0 (Sl a15 r12 c16) r12, Ch.own 0 n0 (Sl a34 r31 c35) r31] ∧ Md (cov []) σ61 σm, fun _ => fun σm => Hp S0 σ0 σm [Ch.ro 0 (Sl a5 r2.1 c6) r2.1, Ch.ro 0 (Sl a9 r2.2.2.1 c10) r2.2.2.1, Ch.bx n0 b59 0 [(I r53.1), (Sl a56 r53.2.1 c57), (I r53.2.2)] [] [], Ch.ro 0 (Sl a56 r53.2.1 c57) r53.2.1, Ch.ro n0 (Sl a5 r2.1 c6) r2.1, Ch.ro n0 (Sl a7 r2.2.1 c8) r2.2.1, Ch.ro n0 (Sl a9 r2.2.2.1 c10) r2.2.2.1, Ch.own 0 n0 (Sl a15 r12 c16) r12, Ch.own 0 n0 (Sl a34 r31 c35) r31] ∧ Md (cov []) σ61 σm] [fun _ => (pt b59 1), fun _ => (Sl a56 r53.2.1 c57), fun _ => (Sl a9 r2.2.2.1 c10), fun _ => (I r64), fun _ => (Sl a15 r12 c16), fun _ => (I s38), fun _ => (pt b70 o71), fun _ => (pt b70 (o71 + 1)), fun _ => (I x67.2), fun _ => (B (r64 != x67.2)), fun _ => (B (r64 != x67.2)), fun _ => (Sl a34 r31 c35), fun _ => (Sl a5 r2.1 c6), fun _ => (pt b59 1), fun _ => (Sl a56 r53.2.1 c57), fun _ => (I r76)] () (by kernel_rfl) (by kernel_rfl) ?_ ?_ ?_
       ·intro σm m0
        exact ⟨H.grow (m0.mono fun _ h => h.elim), m0⟩
       ·refine ac rfl (by
          intro k _nm ρ σm hJ hoff hdep
          have e11 := look_off (N := 76) (hoff 11 rfl) rfl
          exact dp_v (v := (pt b59 1)) wn (rv_fieldAddr (off := 1) (ft := 24) Tryz.underlying33 rfl ti24 rfl e11) rfl hJ) ?_
        refine all_cons (by
          refine ⟨?_, ?_⟩
          ·intro _nm ρ σm hJ hoff hdep
           have e55 := hdep 0 rfl rfl 55 rfl
           obtain ⟨H, m⟩ := id hJ
           have hc63 := H.cell (u := (Sl a56 r53.2.1 c57)) (o' := 1) 2 1 rfl rfl rfl
           exact dp_v (v := (Sl a56 r53.2.1 c57)) wn (rv_load1 Tryz.underlying24 rfl e55 hc63) rfl hJ
          trivial) ?_
        refine ac rfl (by
          intro k _nm ρ σm hJ hoff hdep
          have e5 := look_off (N := 76) (hoff 5 rfl) rfl
          exact dp_v (v := (Sl a9 r2.2.2.1 c10)) wn (rv_move e5) rfl hJ) ?_
        refine all_cons (by
          refine ⟨?_, ?_⟩
          ·intro _nm ρ σm hJ hoff hdep
           have e56 : look 76 ρ 56 = (Sl a56 r53.2.1 c57) := hdep 1 rfl rfl 56 rfl
           have e57 : look 76 ρ 57 = (Sl a9 r2.2.2.1 c10) := hdep 2 rfl rfl 57 rfl
           obtain ⟨H, m⟩ := id hJ
           refine dp_cx wn (cx_call hc66 (ent_f hc66.fn (by show [(I 3), look 76 ρ 56, look 76 ρ 57] = _; rw [e56, e57])) hn0 (H.sel' [3, 1, 0, 1, 2, 3, 4, 5, 6, 7, 8] rfl rfl : Hp S0 σ0 _ ([_, _] ++ _))) ?_
           rintro _ σq ⟨_, ⟨rfl, rfl⟩, H2, m2⟩
           exact ⟨_, (), rfl, rfl, ⟨H2.sel' [0, 1, 2, 3, 4, 5, 6, 7, 8] rfl rfl, m.comp0 (m2.mono (fun i h => by simp [cov, Ch.ro] at h))⟩, stab [0, 1, 2, 4, 5, 6, 7, 8] (by kernel_rfl) ⟨rfl, rfl, rfl, rfl, rfl, rfl, rfl, rfl, trivial⟩⟩
          trivial) ?_
        refine ac rfl (by
          intro k _nm ρ σm hJ hoff hdep
          have e8 := look_off (N := 76) (hoff 8 rfl) rfl
          exact dp_v (v := (Sl a15 r12 c16)) wn (rv_move e8) rfl hJ) ?_
        refine ac rfl (by
          intro k _nm ρ σm hJ hoff hdep
          have e10 := look_off (N := 76) (hoff 10 rfl) rfl
          exact dp_v (v := (I s38)) wn (rv_move e10) rfl hJ) ?_
        refine ac rfl (by
          intro k _nm ρ σm hJ hoff hdep
          have e59 := hdep 4 rfl rfl 59 rfl
          have e60 := hdep 5 rfl rfl 60 rfl
          exact dp_v (v := (pt b70 o71)) wn (rv_ix Tryz.underlying27 ti44 e59 e60 hi69) rfl hJ) ?_
        refine ac rfl (by
          intro k _nm ρ σm hJ hoff hdep
          have e61 := hdep 6 rfl rfl 61 rfl
          exact dp_v (v := (pt b70 (o71 + 1))) wn (rv_fieldAddr (off := 1) (ft := 3) Tryz.underlying44 rfl ti3 rfl e61) rfl hJ) ?_
        refine all_cons (by
          refine ⟨?_, ?_⟩
          ·intro _nm ρ σm hJ hoff hdep
           have e62 := hdep 7 rfl rfl 62 rfl
           obtain ⟨H, m⟩ := id hJ
           have hc72 := ((H.own 7 rfl).at hx68 hi69).snd.int
           exact dp_v (v := (I x67.2)) wn (rv_load1 Tryz.underlying3 rfl e62 hc72) rfl hJ
          refine ⟨?_, ?_⟩
          ·intro _nm ρ σm hJ hoff hdep
           have e62 := hdep 7 rfl rfl 62 rfl
           obtain ⟨H, m⟩ := id hJ
           have hc72 := ((H.own 7 rfl).at hx68 hi69).snd.int
           exact dp_v (v := (I x67.2)) wn (rv_load1 Tryz.underlying3 rfl e62 hc72) rfl hJ
          trivial) ?_
        refine ac rfl (by
          intro k _nm ρ σm hJ hoff hdep
          have e58 := hdep 3 rfl rfl 58 rfl
          have e63 := hdep 8 rfl rfl 63 rfl
          exact dp_v (v := (B (r64 != x67.2))) wn (rv_neq (a := r64) (b := x67.2) e58 e63) rfl hJ) ?_
        refine ac rfl (by
          intro k _nm ρ σm hJ hoff hdep
          have e64 := hdep 9 rfl rfl 64 rfl
          exact dp_v (v := (B (r64 != x67.2))) wn (rv_move e64) rfl hJ) ?_
        refine ac rfl (by
          intro k _nm ρ σm hJ hoff hdep
          have e9 := look_off (N := 76) (hoff 9 rfl) rfl
          have e65 := hdep 10 rfl rfl 65 rfl
          exact dp_v (v := (Sl a34 r31 c35)) (wanted_yes rfl (yv_of rfl (e65.trans (congrArg B hb73)))) (rv_move e9) rfl hJ) ?_
        refine ac rfl (by
          intro k _nm ρ σm hJ hoff hdep
          have e3 := look_off (N := 76) (hoff 3 rfl) rfl
          have e65 := hdep 10 rfl rfl 65 rfl
          exact dp_v (v := (Sl a5 r2.1 c6)) (wanted_yes rfl (yv_of rfl (e65.trans (congrArg B hb73)))) (rv_move e3) rfl hJ) ?_
        refine ac rfl (by
          intro k _nm ρ σm hJ hoff hdep
          have e11 := look_off (N := 76) (hoff 11 rfl) rfl
          have e65 := hdep 10 rfl rfl 65 rfl
          exact dp_v (v := (pt b59 1)) (wanted_yes rfl (yv_of rfl (e65.trans (congrArg B hb73)))) (rv_fieldAddr (off := 1) (ft := 24) Tryz.underlying33 rfl ti24 rfl e11) rfl hJ) ?_
        refine all_cons (by
          refine ⟨?_, ?_⟩
          ·intro _nm ρ σm hJ hoff hdep
           have e68 := hdep 13 rfl rfl 68 rfl
           have e65 := hdep 10 rfl rfl 65 rfl
           obtain ⟨H, m⟩ := id hJ
           have hc75 := H.cell (u := (Sl a56 r53.2.1 c57)) (o' := 1) 2 1 rfl rfl rfl
           exact dp_v (v := (Sl a56 r53.2.1 c57)) (wanted_yes rfl (yv_of rfl (e65.trans (congrArg B hb73)))) (rv_load1 Tryz.underlying24 rfl e68 hc75) rfl hJ
          trivial) ?_
        refine all_cons (by
          refine ⟨?_, ?_⟩
          ·intro _nm ρ σm hJ hoff hdep
           have e67 : look 76 ρ 67 = (Sl a5 r2.1 c6) := hdep 12 rfl rfl 67 rfl
           have e69 : look 76 ρ 69 = (Sl a56 r53.2.1 c57) := hdep 14 rfl rfl 69 rfl
           have e65 := hdep 10 rfl rfl 65 rfl
           obtain ⟨H, m⟩ := id hJ
           refine dp_cx (wanted_yes rfl (yv_of rfl (e65.trans (congrArg B hb73)))) (cx_call hc78 (ent_f hc78.fn (by show [look 76 ρ 67, look 76 ρ 69] = _; rw [e67, e69])) hn0 (H.sel' [0, 3, 0, 1, 2, 3, 4, 5, 6, 7, 8] rfl rfl : Hp S0 σ0 _ ([_, _] ++ _))) ?_
           rintro _ σq ⟨_, ⟨rfl, rfl⟩, H2, m2⟩
           exact ⟨_, (), rfl, rfl, ⟨H2.sel' [0, 1, 2, 3, 4, 5, 6, 7, 8] rfl rfl, m.comp0 (m2.mono (fun i h => by simp [cov, Ch.ro] at h))⟩, stab [0, 1, 2, 3, 4, 5, 6, 7, 8, 9, 10, 11, 12, 13, 14] (by kernel_rfl) ⟨rfl, rfl, rfl, rfl, rfl, rfl, rfl, rfl, rfl, rfl, rfl, rfl, rfl, rfl, rfl, trivial⟩⟩
          trivial) ?_
        exact all_nil
       ·intro _nm ρ σ79 hJ hoff hrel
        have e3 := look_off (N := 76) (hoff 3 rfl) rfl
        have e4 := look_off (N := 76) (hoff 4 rfl) rfl
        have e5 := look_off (N := 76) (hoff 5 rfl) rfl
        have e8 := look_off (N := 76) (hoff 8 rfl) rfl
        have e9 := look_off (N := 76) (hoff 9 rfl) rfl
        have e10 := look_off (N := 76) (hoff 10 rfl) rfl
        have e65 := hrel 10 rfl 65 rfl
        have e66 := hrel 11 rfl 66 rfl
        have e70 := hrel 15 rfl 70 rfl
        obtain ⟨H, -⟩ := (show Hp S0 σ0 σ79 [Ch.ro 0 (Sl a5 r2.1 c6) r2.1, Ch.ro 0 (Sl a9 r2.2.2.1 c10) r2.2.2.1, Ch.bx n0 b59 0 [(I r53.1), (Sl a56 r53.2.1 c57), (I r53.2.2)] [] [], Ch.ro 0 (Sl a56 r53.2.1 c57) r53.2.1, Ch.ro n0 (Sl a5 r2.1 c6) r2.1, Ch.ro n0 (Sl a7 r2.2.1 c8) r2.2.1, Ch.ro n0 (Sl a9 r2.2.2.1 c10) r2.2.2.1, Ch.own 0 n0 (Sl a15 r12 c16) r12, Ch.own 0 n0 (Sl a34 r31 c35) r31] ∧ Md (cov []) σ61 σ79 from hJ)
        clear hJ Hs
        rw [fr_lookL (L := [(3, (Sl a5 r2.1 c6)), (4, (Sl a7 r2.2.1 c8)), (5, (Sl a9 r2.2.2.1 c10)), (8, (Sl a15 r12 c16)), (9, (Sl a34 r31 c35)), (10, (I s38)), (65, (B (r64 != x67.2))), (66, (Sl a34 r31 c35)), (70, (I r76))]) ⟨e3, e4, e5, e8, e9, e10, e65, e66, e70, trivial⟩]
        clear hoff hrel e3 e4 e5 e8 e9 e10 e65 e66 e70
        revert h; refine br fun r80 hx81 h => ?_
        have hc82 := c_laws_isIn (Aj := a34) (Ak := c35) hx81
        have hle := Nat.le_trans hn0 H.size
        refine st_call (cx_lend (Loan.lend Loan.nil) hc82 (ent_f hc82.fn rfl) (show Hp S0 σ0 _ ([Ch.own 0 n0 (Sl a34 r31 c35) r31] ++ ([] ++ [Ch.ro 0 (Sl a5 r2.1 c6) r2.1, Ch.ro 0 (Sl a9 r2.2.2.1 c10) r2.2.2.1, Ch.bx n0 b59 0 [(I r53.1), (Sl a56 r53.2.1 c57), (I r53.2.2)] [] [], Ch.ro 0 (Sl a56 r53.2.1 c57) r53.2.1, Ch.ro n0 (Sl a5 r2.1 c6) r2.1, Ch.ro n0 (Sl a7 r2.2.1 c8) r2.2.1, Ch.ro n0 (Sl a9 r2.2.2.1 c10) r2.2.2.1, Ch.own 0 n0 (Sl a15 r12 c16) r12])) from (H.sel' [8, 0, 1, 2, 3, 4, 5, 6, 7] rfl rfl)) (by rintro _ _ _ ⟨rfl, rfl⟩; exact trivial)) (wanted_yes rfl (by exact (congrArg some hb73))) ?_
        rintro _ σ83 ⟨_, ⟨rfl, rfl⟩, H, -, -⟩
        replace H : Hp _ _ _ [_, _, _, _, _, _, _, _, _] := H
        clear hle
        replace H : Hp _ _ _ [_, _, _, _, _, _, _, _, _] := H
        replace H : Hp S0 σ0 σ83 [Ch.own 0 n0 (Sl a34 r31 c35) r31, Ch.ro n0 (Sl a5 r2.1 c6) r2.1, Ch.ro n0 (Sl a7 r2.2.1 c8) r2.2.1, Ch.ro n0 (Sl a9 r2.2.2.1 c10) r2.2.2.1, Ch.own 0 n0 (Sl a15 r12 c16) r12] := H.sel' [0, 5, 6, 7, 8] rfl rfl
        refine st_g (v := (B (!r80))) (congrArg some hb73) (rv_not rfl) (st (v := (B (!r80))) (rv_pick_f (congrArg B hb73) rfl) (w_end ?_))
        obtain rfl := sj h
        exact ⟨rfl, _, σ83, fr_join ⟨rfl, rfl, rfl, rfl, rfl, rfl, rfl, trivial⟩, rfl, H.sel' [1, 2, 3, 4, 0] rfl rfl⟩
     ·clear hj
      have h := h'
      clear h' H
      rintro e a w ⟨rfl, ρ, σ84, rfl, rfl, H⟩
      refine q_then ?_
      refine cd_cond o62 rfl (fun hb85 => ?_) (fun hb85 => ?_)
      ·replace h := bif_t hb85 h
       refine c_seq (rg (sa (B false) rfl (w_end (q_then (c_ret (q_blk_r (q_then_r (q_then_r (q_blk_r ?_)))))))))
       obtain rfl := sj h
       obtain rfl := hres _ rfl
       exact .inr (⟨_, rfl, rfl, _, σ84, fr_join ⟨rfl, trivial⟩, rfl, H.sel' [] rfl rfl⟩)
      ·replace h := bif_f hb85 h
       refine c_skip (q_blk (q_then (rg (sm (I s38) rfl (st (v := (I (w64 (s38 + 1)))) (rv_add (a := s38) (b := 1) rfl rfl) (sa (I (w64 (s38 + 1))) rfl (w_end (q_then ?_))))))))
       obtain rfl := sj h
       exact ⟨_, rfl, _, σ84, fr_join ⟨rfl, rfl, rfl, rfl, rfl, rfl, trivial⟩, rfl, H.sel' [0, 1, 2, 3, 4] rfl rfl⟩
    ·replace h := bif_f hb46 h
     refine c_exit (q_then_x (q_then_x (q_blk_hit ?_)))
     obtain rfl := sj h
     obtain rfl := hres _ rfl
     exact .inl ⟨_, rfl, rfl, _, σ45, fr_join ⟨rfl, trivial⟩, rfl, H.sel' [3] rfl rfl⟩
   ·clear hj
    have h := h'
    clear h' H
    rintro e a w (⟨t86, rfl, rfl, ρ, σ87, rfl, rfl, H⟩ | ⟨t94, rfl, rfl, ρ, σ95, rfl, rfl, H⟩)
    ·replace h := selim_l h
     refine q_then (c_seq (rg (sm (Sl a15 r12 c16) rfl ?_)))
     replace H := H.ownLow 0 0 0 rfl (Nat.le_refl _) (Nat.zero_le _)
     obtain ⟨σ88, hw89, H, -⟩ := H.pub 0 rfl (Nat.le_refl _)
     rw [← hw89]; clear hw89
     revert h; refine br fun r90 hx91 h => ?_
     have hc92 := c_impl_ValidHits (Aj := a15) (Ak := c16) hx91
     refine st_call (cx_call hc92 (ent_f hc92.fn rfl) hn0 (H.sel' [0, 0] rfl rfl : Hp S0 σ0 _ ([_] ++ _))) wn ?_
     rintro _ σ93 ⟨_, ⟨rfl, rfl⟩, H, -⟩
     replace H : Hp _ _ _ [_] := H
     refine sa (B r90) rfl (w_end (q_then (c_ret ?_)))
     obtain rfl := sj h
     exact fin_ret (v := (B r90)) (results_ok Tryz.results4 (res_tmp (v := (B r90)) rfl res_nil) rfl) ⟨rfl, rfl⟩ (H.sel' [] rfl rfl)
    ·replace h := selim_r h
     refine q_then_r ?_
     obtain rfl := sj h
     exact fin_ret (v := (B t94)) (results_ok Tryz.results4 (res_tmp (v := (B t94)) rfl res_nil) rfl) ⟨rfl, rfl⟩ (H.sel' [] rfl rfl)

end Go.Vs
