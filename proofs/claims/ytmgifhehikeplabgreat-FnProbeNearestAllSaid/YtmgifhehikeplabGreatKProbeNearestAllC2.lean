/- The functions compute what their models say. -/
import Derived.Test.YtmgifhehikeplabGreatKProbeNearestAllC1
set_option linter.unusedVariables false
set_option linter.unusedSimpArgs false
set_option maxRecDepth 20000
namespace Go.Vs
open Go Go.Proofs
attribute [local irreducible] Code.wp Code.wpIn wpList wpListIn wpQuiet Calls CallsIn

theorem c_spec_PutItem {As : List (Int × (List Int) × Int)} {Bg : Int × (List Int) × Int} {Au : Option Addr} {Av : Nat} {Bh : Option Addr} {Bi : Nat} {r : (List (Int × (List Int) × Int)) × Bool} (h : M.spec_PutItem As Bg = some r) :
    Cal2 Tryz.prog 47 [(Sl Au As Av), (.agg #[(I Bg.1), (Sl Bh Bg.2.1 Bi), (I Bg.2.2)])] [Ch.ro 0 (Sl Au As Av) As, Ch.ro 0 (Sl Bh Bg.2.1 Bi) Bg.2.1] (fun n0 v L => ∃ (az1 : Option Addr), ∃ (cz2 : Nat), v = (.tuple #[(Sl az1 r.1 cz2), (B r.2)]) ∧ L = [Ch.own n0 n0 (Sl az1 r.1 cz2) r.1]) := by
 refine cal2 (n := 22) Tryz.func47 rfl rfl rfl rfl ?_
 intro S0 σ0 n0 hn0 H
 unfold M.spec_PutItem at h
 refine cr (st_ex (ex_box (cs := [(I Bg.1), (Sl Bh Bg.2.1 Bi), (I Bg.2.2)]) H hn0 rfl rfl) wn ?_)
 rintro _ σ2 ⟨b1, rfl, H, -⟩
 refine sa (.slice none 0 0) rfl (sa (B false) rfl (we (c_seq (c_seq ?_))))
 obtain ⟨o3, hj, h'⟩ := bind_some h
 clear h
 refine c_cut (fun e a w => e = .normal ∧ ∃ (ρ : Nat → Value) (σ : St), a = fr 22 (updL ρ [(0, (Sl Au As Av)), (3, (pt b1 0)), (14, (B o3))]) ∧ w = σ.w ∧ Hp S0 σ0 σ [Ch.ro 0 (Sl Au As Av) As, Ch.ro 0 (Sl Bh Bg.2.1 Bi) Bg.2.1, Ch.bx n0 b1 0 [(I Bg.1), (Sl Bh Bg.2.1 Bi), (I Bg.2.2)] [] []]) ?_ ?_
 ·clear h'
  rename _ = some o3 => h
  refine rg (mv (Sl Au As Av) rfl ?_)
  replace h := bind_some h
  obtain ⟨r4, hx5, h⟩ := h
  have hc6 := c_spec_validStore (Au := Au) (Av := Av) hx5
  refine sc hc6 rfl hn0 (H.sel' [1, 0, 1, 2] rfl rfl : Hp S0 σ0 _ ([_] ++ _)) ?_
  rintro _ σ7 ⟨_, ⟨rfl, rfl⟩, H, -⟩
  replace H : Hp _ _ _ [_, _, _] := H
  refine st (v := (B (!r4))) (rv_not rfl) (mv (B (!r4)) rfl ?_)
  rcases Bool.eq_false_or_eq_true (!r4) with hb8 | hb8
  ·replace h := bif_t hb8 h
   refine st_skip (congrArg some hb8) (st_skip (congrArg some hb8) (st_skip (congrArg some hb8) (st (v := (B true)) (rv_pick_t (congrArg B hb8) rfl) (w_end ?_))))
   obtain rfl := si h
   exact ⟨rfl, _, σ7, fr_join ⟨rfl, rfl, rfl, trivial⟩, rfl, H.sel' [1, 2, 0] rfl rfl⟩
  ·replace h := bif_f hb8 h
   have hc9 := H.cells 0 rfl
   refine st_g (v := (.agg #[(I Bg.1), (Sl Bh Bg.2.1 Bi), (I Bg.2.2)])) (congrArg some hb8) (rv_load (cs := [(I Bg.1), (Sl Bh Bg.2.1 Bi), (I Bg.2.2)]) Tryz.underlying52 rfl ti52 rfl rfl hc9) ?_
   replace h := bind_some h
   obtain ⟨r10, hx11, h⟩ := h
   have hc12 := c_spec_validItem (Be := Bh) (Bf := Bi) hx11
   refine st_call (cx_call hc12 (ent_f hc12.fn rfl) hn0 (H.sel' [2, 0, 1, 2] rfl rfl : Hp S0 σ0 _ ([_] ++ _))) (wanted_yes rfl (by exact (congrArg some hb8))) ?_
   rintro _ σ13 ⟨_, ⟨rfl, rfl⟩, H, -⟩
   replace H : Hp _ _ _ [_, _, _] := H
   refine st_g (v := (B (!r10))) (congrArg some hb8) (rv_not rfl) (st (v := (B (!r10))) (rv_pick_f (congrArg B hb8) rfl) (w_end ?_))
   obtain rfl := si h
   exact ⟨rfl, _, σ13, fr_join ⟨rfl, rfl, rfl, trivial⟩, rfl, H.sel' [1, 2, 0] rfl rfl⟩
 ·clear hj
  have h := h'
  clear h' H
  rintro e a w ⟨rfl, ρ, σ14, rfl, rfl, H⟩
  refine q_then ?_
  refine cd_cond o3 rfl (fun hb15 => ?_) (fun hb15 => ?_)
  ·replace h := bif_t hb15 h
   refine cr (sa (.slice none 0 0) rfl (sa (B false) rfl (we (c_ret (q_then_r ?_)))))
   replace H := H.nilOwn (Int × (List Int) × Int) n0 n0
   obtain rfl := si h
   exact fin_ret (v := (.tuple #[(.slice none 0 0), (B false)])) (results_ok Tryz.results47 (res_tmp (v := (.slice none 0 0)) rfl (res_tmp (v := (B false)) rfl res_nil)) rfl) ⟨none, 0, rfl, rfl⟩ (H.sel' [0] rfl rfl)
  ·replace h := bif_f hb15 h
   refine c_skip (q_then (cr (mv (Sl Au As Av) rfl ?_)))
   have hc16 := H.cells 2 rfl
   refine st (v := (.agg #[(I Bg.1), (Sl Bh Bg.2.1 Bi), (I Bg.2.2)])) (rv_load (cs := [(I Bg.1), (Sl Bh Bg.2.1 Bi), (I Bg.2.2)]) Tryz.underlying52 rfl ti52 rfl rfl hc16) ?_
   replace h := bind_some h
   obtain ⟨r17, hx18, h⟩ := h
   have hc19 := c_spec_put (Au := Au) (Av := Av) (Bh := Bh) (Bi := Bi) hx18
   refine sc hc19 rfl hn0 (H.sel' [0, 1, 0, 1, 2] rfl rfl : Hp S0 σ0 _ ([_, _] ++ _)) ?_
   rintro _ σ22 ⟨_, ⟨a20, c21, rfl, rfl⟩, H, -⟩
   replace H : Hp _ _ _ [_, _, _, _] := H
   refine sa (Sl a20 r17 c21) rfl (we (c_seq (cr (mv (Sl a20 r17 c21) rfl ?_))))
   replace h := bind_some h
   obtain ⟨r23, hx24, h⟩ := h
   have hc25 := c_spec_validStore (Au := a20) (Av := c21) hx24
   have hle := Nat.le_trans hn0 H.size
   refine st_call (cx_lend (Loan.lend Loan.nil) hc25 (ent_f hc25.fn rfl) (show Hp S0 σ0 _ ([Ch.own n0 n0 (Sl a20 r17 c21) r17] ++ ([] ++ [Ch.ro 0 (Sl Au As Av) As, Ch.ro 0 (Sl Bh Bg.2.1 Bi) Bg.2.1, Ch.bx n0 b1 0 [(I Bg.1), (Sl Bh Bg.2.1 Bi), (I Bg.2.2)] [] []])) from (H.sel' [0, 1, 2, 3] rfl rfl)) (by rintro _ _ _ ⟨rfl, rfl⟩; exact trivial)) wn ?_
   rintro _ σ26 ⟨_, ⟨rfl, rfl⟩, H, -, -⟩
   replace H : Hp _ _ _ [_, _, _, _] := H
   clear hle
   replace H : Hp _ _ _ [_, _, _, _] := H
   refine st (v := (B (!r23))) (rv_not rfl) (we ?_)
   refine cd_cond (!r23) rfl (fun hb27 => ?_) (fun hb27 => ?_)
   ·replace h := bif_t hb27 h
    refine cr (sa (.slice none 0 0) rfl (sa (B false) rfl (we (c_ret (q_then_r ?_)))))
    replace H := H.nilOwn (Int × (List Int) × Int) n0 n0
    obtain rfl := si h
    exact fin_ret (v := (.tuple #[(.slice none 0 0), (B false)])) (results_ok Tryz.results47 (res_tmp (v := (.slice none 0 0)) rfl (res_tmp (v := (B false)) rfl res_nil)) rfl) ⟨none, 0, rfl, rfl⟩ (H.sel' [0] rfl rfl)
   ·replace h := bif_f hb27 h
    refine c_skip (q_then (cr (mv (Sl a20 r17 c21) rfl (sa (Sl a20 r17 c21) rfl (sa (B true) rfl (we (c_ret ?_)))))))
    obtain rfl := si h
    exact fin_ret (v := (.tuple #[(Sl a20 r17 c21), (B true)])) (results_ok Tryz.results47 (res_tmp (v := (Sl a20 r17 c21)) rfl (res_tmp (v := (B true)) rfl res_nil)) rfl) ⟨a20, c21, rfl, rfl⟩ (H.sel' [0] rfl rfl)

theorem c_spec_someItem {Ae : (List UInt8) × Int} {Ag : Option Addr} {Ah : Nat} {Ai Aj Ak : Nat} {Am Ao : List Value} {r : (Int × (List Int) × Int) × ((List UInt8) × Int)} (h : M.spec_someItem Ae = some r) :
    Cal2 Tryz.prog 48 [(pt Aj Ak)] [Ch.bx Ai Aj Ak [(Sl Ag Ae.1 Ah), (I Ae.2)] Am Ao, Ch.ro 0 (Sl Ag Ae.1 Ah) Ae.1] (fun n0 v L => ∃ (az1 : Option Addr), ∃ (cz2 : Nat), ∃ (az3 : Option Addr), ∃ (cz4 : Nat), v = (.agg #[(I r.1.1), (Sl az1 r.1.2.1 cz2), (I r.1.2.2)]) ∧ L = [Ch.own n0 n0 (Sl az1 r.1.2.1 cz2) r.1.2.1, Ch.bx Ai Aj Ak [(Sl az3 r.2.1 cz4), (I r.2.2)] Am Ao, Ch.ro 0 (Sl az3 r.2.1 cz4) r.2.1]) := by
 refine cal2 (n := 11) Tryz.func48 rfl rfl rfl rfl ?_
 intro S0 σ0 n0 hn0 H
 unfold M.spec_someItem at h
 refine cr (st_ex (ex_alloc (cs := [(I 0), (.slice none 0 0), (I 0)]) H hn0 ti52 rfl) wn ?_)
 rintro _ σ2 ⟨b1, rfl, H, -⟩
 refine we (cr (mv (pt Aj Ak) rfl ?_))
 replace h := bind_some h
 obtain ⟨r3, hx4, h⟩ := h
 have hc5 := c_spec_reader_pick (Ai := Ai) (Aj := Aj) (Ak := Ak) (Am := Am) (Ao := Ao) (Ag := Ag) (Ah := Ah) hx4
 refine sc hc5 rfl hn0 (H.sel' [1, 2, 0, 2] rfl rfl : Hp S0 σ0 _ ([_, _] ++ _)) ?_
 rintro _ σ8 ⟨_, ⟨a6, c7, rfl, rfl⟩, H, -⟩
 replace H : Hp _ _ _ [_, _, _, _] := H
 refine st (v := (I (w64 (1 + r3.1)))) (rv_add (a := 1) (b := r3.1) rfl rfl) (mv (pt Aj Ak) rfl ?_)
 replace h := bind_some h
 obtain ⟨r9, hx10, h⟩ := h
 have hc11 := c_spec_someVector (Ai := Ai) (Aj := Aj) (Ak := Ak) (Am := Am) (Ao := Ao) (Ag := a6) (Ah := c7) hx10
 refine sc hc11 rfl hn0 (H.sel' [0, 1, 1, 2, 3] rfl rfl : Hp S0 σ0 _ ([_, _] ++ _)) ?_
 rintro _ σ16 ⟨_, ⟨a12, c13, a14, c15, rfl, rfl⟩, H, -⟩
 replace H : Hp _ _ _ [_, _, _, _, _, _] := H
 refine mv (pt Aj Ak) rfl ?_
 replace h := bind_some h
 obtain ⟨r17, hx18, h⟩ := h
 have hc19 := c_spec_reader_pick (Ai := Ai) (Aj := Aj) (Ak := Ak) (Am := Am) (Ao := Ao) (Ag := a14) (Ah := c15) hx18
 refine sc hc19 rfl hn0 (H.sel' [1, 2, 0, 2, 3, 4, 5] rfl rfl : Hp S0 σ0 _ ([_, _] ++ _)) ?_
 rintro _ σ22 ⟨_, ⟨a20, c21, rfl, rfl⟩, H, -⟩
 replace H : Hp _ _ _ [_, _, _, _, _, _, _] := H
 refine st (v := (.agg #[(I (w64 (1 + r3.1))), (Sl a12 r9.1 c13), (I r17.1)])) (rv_build (ps := [(0, (I (w64 (1 + r3.1)))), (1, (Sl a12 r9.1 c13)), (2, (I r17.1))]) Tryz.underlying52 ti52 (bp52 Tryz.underlying52) rfl (by kernel_rfl)) ?_
 refine st_exS (ex_store_box (k := 0) (cs := [(I 0), (.slice none 0 0), (I 0)]) (vs := [(I (w64 (1 + r3.1))), (Sl a12 r9.1 c13), (I r17.1)]) (cs' := [(I (w64 (1 + r3.1))), (Sl a12 r9.1 c13), (I r17.1)]) H (i := 5) rfl ti52 rfl rfl rfl rfl rfl (Nat.le_of_ble_eq_true rfl) (by simp [plain]) rfl) wn ?_
 rintro σ23 ⟨H, -⟩
 refine we (c_ret ?_)
 obtain rfl := si h
 exact fin_ret (v := (.agg #[(I (w64 (1 + r3.1))), (Sl a12 r9.1 c13), (I r17.1)])) (results_ok Tryz.results48 (res_cell rfl (run_cellRes (cs := [(I (w64 (1 + r3.1))), (Sl a12 r9.1 c13), (I r17.1)]) Tryz.underlying52 rfl ti52 rfl (H.cells 0 rfl)) res_nil) rfl) ⟨a12, c13, a20, c21, rfl, rfl⟩ (H.sel' [3, 1, 2] rfl rfl)

theorem c_spec_someStore {Ae : (List UInt8) × Int} {Ag : Option Addr} {Ah : Nat} {Ai Aj Ak : Nat} {Am Ao : List Value} {r : (List (Int × (List Int) × Int)) × ((List UInt8) × Int)} (h : M.spec_someStore Ae = some r) :
    Cal2 Tryz.prog 31 [(pt Aj Ak)] [Ch.bx Ai Aj Ak [(Sl Ag Ae.1 Ah), (I Ae.2)] Am Ao, Ch.ro 0 (Sl Ag Ae.1 Ah) Ae.1] (fun n0 v L => ∃ (az1 : Option Addr), ∃ (cz2 : Nat), ∃ (az3 : Option Addr), ∃ (cz4 : Nat), v = (Sl az1 r.1 cz2) ∧ L = [Ch.own n0 n0 (Sl az1 r.1 cz2) r.1, Ch.bx Ai Aj Ak [(Sl az3 r.2.1 cz4), (I r.2.2)] Am Ao, Ch.ro 0 (Sl az3 r.2.1 cz4) r.2.1]) := by
 refine cal2 (n := 25) Tryz.func31 rfl rfl rfl rfl ?_
 intro S0 σ0 n0 hn0 H
 unfold M.spec_someStore at h
 refine cr (sa (.slice none 0 0) rfl (we (cr ?_)))
 refine st_ex (ex_buildSlice (el := n0) (xs := ([] : List (Int × (List Int) × Int))) (ps := []) (cs := []) H hn0 Tryz.underlying24 ti52 rfl rfl (by kernel_rfl) (.nil) rfl) wn ?_
 rintro _ σ2 ⟨b1, rfl, H, -⟩
 refine sa (Sl (some ⟨b1, 0, none⟩) ([] : List (Int × (List Int) × Int)) 0) rfl (we (c_seq (cr (mv (pt Aj Ak) rfl ?_))))
 refine st_ex (ex_buildSlice (el := n0) (xs := ([4, 6, 8, 3, 1, 0, 20, 12] : List Int)) (ps := [(0, (I 4)), (1, (I 6)), (2, (I 8)), (3, (I 3)), (4, (I 1)), (5, (I 0)), (6, (I 20)), (7, (I 12))]) (cs := [(I 4), (I 6), (I 8), (I 3), (I 1), (I 0), (I 20), (I 12)]) H hn0 Tryz.underlying25 ti3 rfl rfl (by kernel_rfl) (.cons (c := [(I 4)]) rfl (.cons (c := [(I 6)]) rfl (.cons (c := [(I 8)]) rfl (.cons (c := [(I 3)]) rfl (.cons (c := [(I 1)]) rfl (.cons (c := [(I 0)]) rfl (.cons (c := [(I 20)]) rfl (.cons (c := [(I 12)]) rfl (.nil))))))))) rfl) wn ?_
 rintro _ σ4 ⟨b3, rfl, H, -⟩
 obtain ⟨σ5, hw6, H, -⟩ := H.pub 0 rfl (Nat.le_refl _)
 rw [← hw6]; clear hw6
 replace H := H.roLow 0 0 rfl (Nat.zero_le _)
 replace h := bind_some h
 obtain ⟨r7, hx8, h⟩ := h
 have hc9 := c_spec_reader_one (Ai := Ai) (Aj := Aj) (Ak := Ak) (Am := Am) (Ao := Ao) (Ag := Ag) (Ah := Ah) (Aq := (some ⟨b3, 0, none⟩)) (Ar := 8) hx8
 refine sc hc9 rfl hn0 (H.sel' [3, 4, 0, 0, 1, 2, 4] rfl rfl : Hp S0 σ0 _ ([_, _, _] ++ _)) ?_
 rintro _ σ12 ⟨_, ⟨a10, c11, rfl, rfl⟩, H, -⟩
 replace H : Hp _ _ _ [_, _, _, _, _, _] := H
 refine sa (I r7.1) rfl (we ?_)
 obtain ⟨o13, hj, h'⟩ := bind_some h
 clear h
 refine c_cut (fun e a w => e = .normal ∧ ∃ (ρ : Nat → Value) (σ : St) (aj1 : Option Addr) (cj2 : Nat) (aj3 : Option Addr) (cj4 : Nat), a = fr 25 (updL ρ [(0, (pt Aj Ak)), (3, (Sl aj3 o13.2 cj4))]) ∧ w = σ.w ∧ Hp S0 σ0 σ [Ch.bx Ai Aj Ak [(Sl aj1 o13.1.1 cj2), (I o13.1.2)] Am Ao, Ch.ro 0 (Sl aj1 o13.1.1 cj2) o13.1.1, Ch.own n0 n0 (Sl aj3 o13.2 cj4) o13.2]) ?_ ?_
 ·clear h'
  rename _ = some o13 => h
  refine c_blk (wp_loopM _ h (fun s14 a w => ∃ (ρ : Nat → Value) (σ : St) (aj1 : Option Addr) (cj2 : Nat) (aj3 : Option Addr) (cj4 : Nat), a = fr 25 (updL ρ [(0, (pt Aj Ak)), (3, (Sl aj3 s14.2.1 cj4)), (4, (I s14.2.2))]) ∧ w = σ.w ∧ Hp S0 σ0 σ [Ch.bx Ai Aj Ak [(Sl aj1 s14.1.1 cj2), (I s14.1.2)] Am Ao, Ch.ro 0 (Sl aj1 s14.1.1 cj2) s14.1.1, Ch.own n0 n0 (Sl aj3 s14.2.1 cj4) s14.2.1]) ⟨_, σ12, a10, c11, (some ⟨b1, 0, none⟩), 0, fr_join ⟨rfl, rfl, rfl, trivial⟩, rfl, H.sel' [0, 1, 4] rfl rfl⟩ ?_)
  clear h H
  rintro s14 a w o ⟨ρ, σ15, a16, c17, a18, c19, rfl, rfl, H⟩ h hres
  refine c_seq (cr (mv (I s14.2.2) rfl (st (v := (B (decide (0 < s14.2.2)))) (rv_gtr (a := s14.2.2) (b := 0) rfl rfl) (we ?_))))
  refine cd_cond (decide (0 < s14.2.2)) rfl (fun hb20 => ?_) (fun hb20 => ?_)
  ·replace h := bif_t hb20 h
   refine c_skip (q_then (c_seq ?_))
   obtain ⟨o21, hj, h'⟩ := bind_some h
   clear h
   refine c_cut (fun e a w => e = .normal ∧ ∃ (ρ : Nat → Value) (σ : St) (aj1 : Option Addr) (cj2 : Nat) (aj3 : Option Addr) (cj4 : Nat), a = fr 25 (updL ρ [(0, (pt Aj Ak)), (3, (Sl aj3 o21.2 cj4)), (4, (I s14.2.2))]) ∧ w = σ.w ∧ Hp S0 σ0 σ [Ch.bx Ai Aj Ak [(Sl aj1 o21.1.1 cj2), (I o21.1.2)] Am Ao, Ch.ro 0 (Sl aj1 o21.1.1 cj2) o21.1.1, Ch.own n0 n0 (Sl aj3 o21.2 cj4) o21.2]) ?_ ?_
   ·clear h'
    rename _ = some o21 => h
    refine c_blk (cr (mv (Sl a18 s14.2.1 c19) rfl (mv (pt Aj Ak) rfl ?_)))
    replace h := bind_some h
    obtain ⟨r22, hx23, h⟩ := h
    have hc24 := c_spec_someItem (Ai := Ai) (Aj := Aj) (Ak := Ak) (Am := Am) (Ao := Ao) (Ag := a16) (Ah := c17) hx23
    refine sc hc24 rfl hn0 (H.sel' [0, 1, 1, 2] rfl rfl : Hp S0 σ0 _ ([_, _] ++ _)) ?_
    rintro _ σ29 ⟨_, ⟨a25, c26, a27, c28, rfl, rfl⟩, H, -⟩
    replace H : Hp _ _ _ [_, _, _, _, _] := H
    obtain ⟨σ30, hw31, H, -⟩ := H.pub 0 rfl (Nat.le_refl _)
    rw [← hw31]; clear hw31
    replace H := H.roLow 0 0 rfl (Nat.zero_le _)
    replace h := bind_some h
    obtain ⟨r32, hx33, h⟩ := h
    have hc34 := c_spec_PutItem (Au := a18) (Av := c19) (Bh := a25) (Bi := c26) hx33
    have hle := Nat.le_trans hn0 H.size
    refine st_call (cx_lend (Loan.lend (Loan.same Loan.nil)) hc34 (ent_f hc34.fn rfl) (show Hp S0 σ0 _ ([Ch.own n0 n0 (Sl a18 s14.2.1 c19) s14.2.1] ++ ([Ch.ro 0 (Sl a25 r22.1.2.1 c26) r22.1.2.1] ++ [Ch.ro 0 (Sl a25 r22.1.2.1 c26) r22.1.2.1, Ch.ro n0 (Sl a25 r22.1.2.1 c26) r22.1.2.1, Ch.bx Ai Aj Ak [(Sl a27 r22.2.1 c28), (I r22.2.2)] Am Ao, Ch.ro 0 (Sl a27 r22.2.1 c28) r22.2.1, Ch.ro 0 (Sl a16 s14.1.1 c17) s14.1.1])) from (H.sel' [5, 0, 0, 1, 2, 3, 4] rfl rfl)) (by rintro _ _ _ ⟨_, _, rfl, rfl⟩; exact ⟨Ab.own (Nat.le_refl _), trivial⟩)) wn ?_
    rintro _ σ37 ⟨_, ⟨a35, c36, rfl, rfl⟩, H, -, -⟩
    replace H : Hp _ _ _ [_, _, _, _, _, _, _] := H
    replace H := H.ownLow 0 n0 n0 rfl hle hle
    clear hle
    replace H : Hp _ _ _ [_, _, _, _, _, _, _] := H
    refine mv (.tuple #[(Sl a35 r32.1 c36), (B r32.2)]) rfl (st (v := (Sl a35 r32.1 c36)) (rv_extract rfl rfl) (st (v := (B r32.2)) (rv_extract rfl rfl) (sa (Sl a35 r32.1 c36) rfl (sa (B r32.2) rfl (we (cr (mv (B r32.2) rfl (we ?_))))))))
    refine cd_cond r32.2 rfl (fun hb38 => ?_) (fun hb38 => ?_)
    ·replace h := bif_t hb38 h
     refine rg (mv (Sl a35 r32.1 c36) rfl (sa (Sl a35 r32.1 c36) rfl (w_end (q_blk ?_))))
     obtain rfl := si h
     exact ⟨rfl, _, σ37, a27, c28, a35, c36, fr_join ⟨rfl, rfl, rfl, trivial⟩, rfl, H.sel' [4, 5, 0] rfl rfl⟩
    ·replace h := bif_f hb38 h
     refine c_skip (q_blk ?_)
     obtain rfl := si h
     exact ⟨rfl, _, σ37, a27, c28, a18, c19, fr_join ⟨rfl, rfl, rfl, trivial⟩, rfl, H.sel' [4, 5, 1] rfl rfl⟩
   ·clear hj
    have h := h'
    clear h' H
    rintro e a w ⟨rfl, ρ, σ39, a40, c41, a42, c43, rfl, rfl, H⟩
    refine q_then (rg (mv (I s14.2.2) rfl (st (v := (I (w64 (s14.2.2 - 1)))) (rv_sub (a := s14.2.2) (b := 1) rfl rfl) (sa (I (w64 (s14.2.2 - 1))) rfl (we ?_)))))
    obtain rfl := si h
    exact ⟨_, rfl, _, σ39, a40, c41, a42, c43, fr_join ⟨rfl, rfl, rfl, trivial⟩, rfl, H.sel' [0, 1, 2] rfl rfl⟩
  ·replace h := bif_f hb20 h
   refine c_exit (q_then_x (q_then_x (q_blk_hit ?_)))
   obtain rfl := si h
   obtain rfl := hres _ rfl
   exact ⟨rfl, _, σ15, a16, c17, a18, c19, fr_join ⟨rfl, rfl, trivial⟩, rfl, H.sel' [0, 1, 2] rfl rfl⟩
 ·clear hj
  have h := h'
  clear h' H
  rintro e a w ⟨rfl, ρ, σ44, a45, c46, a47, c48, rfl, rfl, H⟩
  refine q_then (cr (mv (Sl a47 o13.2 c48) rfl (sa (Sl a47 o13.2 c48) rfl (we (c_ret ?_)))))
  obtain rfl := si h
  exact fin_ret (v := (Sl a47 o13.2 c48)) (results_ok Tryz.results31 (res_tmp (v := (Sl a47 o13.2 c48)) rfl res_nil) rfl) ⟨a47, c48, a45, c46, rfl, rfl⟩ (H.sel' [2, 0, 1] rfl rfl)

theorem c_spec_anyItem {Ae : (List UInt8) × Int} {Ag : Option Addr} {Ah : Nat} {Ai Aj Ak : Nat} {Am Ao : List Value} {r : (Int × (List Int) × Int) × ((List UInt8) × Int)} (h : M.spec_anyItem Ae = some r) :
    Cal2 Tryz.prog 32 [(pt Aj Ak)] [Ch.bx Ai Aj Ak [(Sl Ag Ae.1 Ah), (I Ae.2)] Am Ao, Ch.ro 0 (Sl Ag Ae.1 Ah) Ae.1] (fun n0 v L => ∃ (az1 : Option Addr), ∃ (cz2 : Nat), ∃ (az3 : Option Addr), ∃ (cz4 : Nat), v = (.agg #[(I r.1.1), (Sl az1 r.1.2.1 cz2), (I r.1.2.2)]) ∧ L = [Ch.own n0 n0 (Sl az1 r.1.2.1 cz2) r.1.2.1, Ch.bx Ai Aj Ak [(Sl az3 r.2.1 cz4), (I r.2.2)] Am Ao, Ch.ro 0 (Sl az3 r.2.1 cz4) r.2.1]) := by
 refine cal2 (n := 26) Tryz.func32 rfl rfl rfl rfl ?_
 intro S0 σ0 n0 hn0 H
 unfold M.spec_anyItem at h
 refine cr (st_ex (ex_alloc (cs := [(I 0), (.slice none 0 0), (I 0)]) H hn0 ti52 rfl) wn ?_)
 rintro _ σ2 ⟨b1, rfl, H, -⟩
 refine we (cr (mv (pt Aj Ak) rfl ?_))
 replace h := bind_some h
 obtain ⟨r3, hx4, h⟩ := h
 have hc5 := c_spec_someItem (Ai := Ai) (Aj := Aj) (Ak := Ak) (Am := Am) (Ao := Ao) (Ag := Ag) (Ah := Ah) hx4
 refine sc hc5 rfl hn0 (H.sel' [1, 2, 0, 2] rfl rfl : Hp S0 σ0 _ ([_, _] ++ _)) ?_
 rintro _ σ10 ⟨_, ⟨a6, c7, a8, c9, rfl, rfl⟩, H, -⟩
 replace H : Hp _ _ _ [_, _, _, _, _] := H
 refine st_ex (ex_alloc (cs := [(I 0), (.slice none 0 0), (I 0)]) H hn0 ti52 rfl) wn ?_
 rintro _ σ12 ⟨b11, rfl, H, -⟩
 refine st_exS (ex_store_box (k := 0) (cs := [(I 0), (.slice none 0 0), (I 0)]) (vs := [(I r3.1.1), (Sl a6 r3.1.2.1 c7), (I r3.1.2.2)]) (cs' := [(I r3.1.1), (Sl a6 r3.1.2.1 c7), (I r3.1.2.2)]) H (i := 0) rfl ti52 rfl rfl rfl rfl rfl (Nat.le_of_ble_eq_true rfl) (by simp [plain]) rfl) wn ?_
 rintro σ13 ⟨H, -⟩
 refine we (c_seq (cr (mv (pt Aj Ak) rfl ?_)))
 replace h := bind_some h
 obtain ⟨r14, hx15, h⟩ := h
 have hc16 := c_spec_reader_pick (Ai := Ai) (Aj := Aj) (Ak := Ak) (Am := Am) (Ao := Ao) (Ag := a8) (Ah := c9) hx15
 refine sc hc16 rfl hn0 (H.sel' [2, 3, 0, 1, 3, 4, 5] rfl rfl : Hp S0 σ0 _ ([_, _] ++ _)) ?_
 rintro _ σ19 ⟨_, ⟨a17, c18, rfl, rfl⟩, H, -⟩
 replace H : Hp _ _ _ [_, _, _, _, _, _, _] := H
 refine we ?_
 obtain ⟨o20, hj, h'⟩ := bind_some h
 clear h
 refine c_cut (fun e a w => e = .normal ∧ ∃ (ρ : Nat → Value) (σ : St) (aj1 : Option Addr) (cj2 : Nat) (aj3 : Option Addr) (cj4 : Nat), a = fr 26 (updL ρ [(0, (pt Aj Ak)), (2, (pt b1 0)), (3, (pt b11 0))]) ∧ w = σ.w ∧ Hp S0 σ0 σ [Ch.bx Ai Aj Ak [(Sl aj1 o20.1.1 cj2), (I o20.1.2)] Am Ao, Ch.ro 0 (Sl aj1 o20.1.1 cj2) o20.1.1, Ch.bx n0 b11 0 [(I o20.2.1), (Sl aj3 o20.2.2.1 cj4), (I o20.2.2.2)] [] [], Ch.own n0 n0 (Sl aj3 o20.2.2.1 cj4) o20.2.2.1, Ch.bx n0 b1 0 [(I 0), (.slice none 0 0), (I 0)] [] []]) ?_ ?_
 ·clear h'
  rename _ = some o20 => h
  refine c_blk (cr (st (v := (B (r14.1 == 0))) (rv_eql (a := r14.1) (b := 0) rfl rfl) (sa (B (r14.1 == 0)) rfl (we ?_))))
  refine cd_cond (r14.1 == 0) rfl (fun hb21 => ?_) (fun hb21 => ?_)
  ·replace h := bif_t hb21 h
   refine rg (mv (pt Aj Ak) rfl ?_)
   refine st_ex (ex_buildSlice (el := n0) (xs := ([0, 99, 100] : List Int)) (ps := [(0, (I 0)), (1, (I 99)), (2, (I 100))]) (cs := [(I 0), (I 99), (I 100)]) H hn0 Tryz.underlying25 ti3 rfl rfl (by kernel_rfl) (.cons (c := [(I 0)]) rfl (.cons (c := [(I 99)]) rfl (.cons (c := [(I 100)]) rfl (.nil)))) rfl) wn ?_
   rintro _ σ23 ⟨b22, rfl, H, -⟩
   replace H : Hp S0 σ0 σ23 [Ch.own n0 n0 (Sl (some ⟨b22, 0, none⟩) ([0, 99, 100] : List Int) 3) ([0, 99, 100] : List Int), Ch.bx Ai Aj Ak [(Sl a17 r14.2.1 c18), (I r14.2.2)] Am Ao, Ch.ro 0 (Sl a17 r14.2.1 c18) r14.2.1, Ch.bx n0 b11 0 [(I r3.1.1), (Sl a6 r3.1.2.1 c7), (I r3.1.2.2)] [] [], Ch.own n0 n0 (Sl a6 r3.1.2.1 c7) r3.1.2.1, Ch.bx n0 b1 0 [(I 0), (.slice none 0 0), (I 0)] [] []] := H.sel' [0, 1, 2, 3, 4, 6] rfl rfl
   obtain ⟨σ24, hw25, H, -⟩ := H.pub 0 rfl (Nat.le_refl _)
   rw [← hw25]; clear hw25
   replace H := H.roLow 0 0 rfl (Nat.zero_le _)
   replace h := bind_some h
   obtain ⟨r26, hx27, h⟩ := h
   have hc28 := c_spec_reader_one (Ai := Ai) (Aj := Aj) (Ak := Ak) (Am := Am) (Ao := Ao) (Ag := a17) (Ah := c18) (Aq := (some ⟨b22, 0, none⟩)) (Ar := 3) hx27
   refine sc hc28 rfl hn0 (H.sel' [2, 3, 0, 0, 1, 3, 4, 5, 6] rfl rfl : Hp S0 σ0 _ ([_, _, _] ++ _)) ?_
   rintro _ σ31 ⟨_, ⟨a29, c30, rfl, rfl⟩, H, -⟩
   replace H : Hp _ _ _ [_, _, _, _, _, _, _, _] := H
   replace H : Hp S0 σ0 σ31 [Ch.bx Ai Aj Ak [(Sl a29 r26.2.1 c30), (I r26.2.2)] Am Ao, Ch.ro 0 (Sl a29 r26.2.1 c30) r26.2.1, Ch.bx n0 b11 0 [(I r3.1.1), (Sl a6 r3.1.2.1 c7), (I r3.1.2.2)] [] [], Ch.own n0 n0 (Sl a6 r3.1.2.1 c7) r3.1.2.1, Ch.bx n0 b1 0 [(I 0), (.slice none 0 0), (I 0)] [] []] := H.sel' [0, 1, 5, 6, 7] rfl rfl
   refine st (v := (pt b11 0)) (rv_fieldAddr (off := 0) (ft := 3) Tryz.underlying52 rfl ti3 rfl rfl) ?_
   refine st_exS (ex_store_box (k := 0) (cs := [(I r3.1.1), (Sl a6 r3.1.2.1 c7), (I r3.1.2.2)]) (vs := [(I r26.1)]) (cs' := [(I r26.1), (Sl a6 r3.1.2.1 c7), (I r3.1.2.2)]) H (i := 2) rfl ti3 rfl rfl rfl rfl rfl (Nat.le_of_ble_eq_true rfl) (by simp [plain]) rfl) wn ?_
   rintro σ32 ⟨H, -⟩
   refine w_end (q_blk ?_)
   obtain rfl := si h
   exact ⟨rfl, _, σ32, a29, c30, a6, c7, fr_join ⟨rfl, rfl, rfl, trivial⟩, rfl, H.sel' [1, 2, 0, 3, 4] rfl rfl⟩
  ·replace h := bif_f hb21 h
   refine cr (st (v := (B (r14.1 == 1))) (rv_eql (a := r14.1) (b := 1) rfl rfl) (sa (B (r14.1 == 1)) rfl (we ?_)))
   refine cd_cond (r14.1 == 1) rfl (fun hb33 => ?_) (fun hb33 => ?_)
   ·replace h := bif_t hb33 h
    refine rg (mv (pt Aj Ak) rfl ?_)
    replace h := bind_some h
    obtain ⟨r34, hx35, h⟩ := h
    have hc36 := c_spec_anyVector (Ai := Ai) (Aj := Aj) (Ak := Ak) (Am := Am) (Ao := Ao) (Ag := a17) (Ah := c18) hx35
    refine sc hc36 rfl hn0 (H.sel' [0, 1, 1, 2, 3, 4, 5, 6] rfl rfl : Hp S0 σ0 _ ([_, _] ++ _)) ?_
    rintro _ σ41 ⟨_, ⟨a37, c38, a39, c40, rfl, rfl⟩, H, -⟩
    replace H : Hp _ _ _ [_, _, _, _, _, _, _, _, _] := H
    replace H : Hp S0 σ0 σ41 [Ch.own n0 n0 (Sl a37 r34.1 c38) r34.1, Ch.bx Ai Aj Ak [(Sl a39 r34.2.1 c40), (I r34.2.2)] Am Ao, Ch.ro 0 (Sl a39 r34.2.1 c40) r34.2.1, Ch.bx n0 b11 0 [(I r3.1.1), (Sl a6 r3.1.2.1 c7), (I r3.1.2.2)] [] [], Ch.own n0 n0 (Sl a6 r3.1.2.1 c7) r3.1.2.1, Ch.bx n0 b1 0 [(I 0), (.slice none 0 0), (I 0)] [] []] := H.sel' [0, 1, 2, 4, 5, 7] rfl rfl
    refine st (v := (pt b11 1)) (rv_fieldAddr (off := 1) (ft := 25) Tryz.underlying52 rfl ti25 rfl rfl) ?_
    refine st_exS (ex_store_box (k := 1) (cs := [(I r3.1.1), (Sl a6 r3.1.2.1 c7), (I r3.1.2.2)]) (vs := [(Sl a37 r34.1 c38)]) (cs' := [(I r3.1.1), (Sl a37 r34.1 c38), (I r3.1.2.2)]) H (i := 3) rfl ti25 rfl rfl rfl rfl rfl (Nat.le_of_ble_eq_true rfl) (by simp [plain]) rfl) wn ?_
    rintro σ42 ⟨H, -⟩
    refine w_end (q_blk ?_)
    obtain rfl := si h
    exact ⟨rfl, _, σ42, a39, c40, a37, c38, fr_join ⟨rfl, rfl, rfl, trivial⟩, rfl, H.sel' [2, 3, 0, 1, 5] rfl rfl⟩
   ·replace h := bif_f hb33 h
    refine cr (st (v := (B (r14.1 == 2))) (rv_eql (a := r14.1) (b := 2) rfl rfl) (sa (B (r14.1 == 2)) rfl (we ?_)))
    refine cd_cond (r14.1 == 2) rfl (fun hb43 => ?_) (fun hb43 => ?_)
    ·replace h := bif_t hb43 h
     refine rg (mv (pt Aj Ak) rfl ?_)
     refine st_ex (ex_buildSlice (el := n0) (xs := ([-1, 16] : List Int)) (ps := [(0, (I (-1))), (1, (I 16))]) (cs := [(I (-1)), (I 16)]) H hn0 Tryz.underlying25 ti3 rfl rfl (by kernel_rfl) (.cons (c := [(I (-1))]) rfl (.cons (c := [(I 16)]) rfl (.nil))) rfl) wn ?_
     rintro _ σ45 ⟨b44, rfl, H, -⟩
     replace H : Hp S0 σ0 σ45 [Ch.own n0 n0 (Sl (some ⟨b44, 0, none⟩) ([-1, 16] : List Int) 2) ([-1, 16] : List Int), Ch.bx Ai Aj Ak [(Sl a17 r14.2.1 c18), (I r14.2.2)] Am Ao, Ch.ro 0 (Sl a17 r14.2.1 c18) r14.2.1, Ch.bx n0 b11 0 [(I r3.1.1), (Sl a6 r3.1.2.1 c7), (I r3.1.2.2)] [] [], Ch.own n0 n0 (Sl a6 r3.1.2.1 c7) r3.1.2.1, Ch.bx n0 b1 0 [(I 0), (.slice none 0 0), (I 0)] [] []] := H.sel' [0, 1, 2, 3, 4, 6] rfl rfl
     obtain ⟨σ46, hw47, H, -⟩ := H.pub 0 rfl (Nat.le_refl _)
     rw [← hw47]; clear hw47
     replace H := H.roLow 0 0 rfl (Nat.zero_le _)
     replace h := bind_some h
     obtain ⟨r48, hx49, h⟩ := h
     have hc50 := c_spec_reader_one (Ai := Ai) (Aj := Aj) (Ak := Ak) (Am := Am) (Ao := Ao) (Ag := a17) (Ah := c18) (Aq := (some ⟨b44, 0, none⟩)) (Ar := 2) hx49
     refine sc hc50 rfl hn0 (H.sel' [2, 3, 0, 0, 1, 3, 4, 5, 6] rfl rfl : Hp S0 σ0 _ ([_, _, _] ++ _)) ?_
     rintro _ σ53 ⟨_, ⟨a51, c52, rfl, rfl⟩, H, -⟩
     replace H : Hp _ _ _ [_, _, _, _, _, _, _, _] := H
     replace H : Hp S0 σ0 σ53 [Ch.bx Ai Aj Ak [(Sl a51 r48.2.1 c52), (I r48.2.2)] Am Ao, Ch.ro 0 (Sl a51 r48.2.1 c52) r48.2.1, Ch.bx n0 b11 0 [(I r3.1.1), (Sl a6 r3.1.2.1 c7), (I r3.1.2.2)] [] [], Ch.own n0 n0 (Sl a6 r3.1.2.1 c7) r3.1.2.1, Ch.bx n0 b1 0 [(I 0), (.slice none 0 0), (I 0)] [] []] := H.sel' [0, 1, 5, 6, 7] rfl rfl
     refine st (v := (pt b11 2)) (rv_fieldAddr (off := 2) (ft := 3) Tryz.underlying52 rfl ti3 rfl rfl) ?_
     refine st_exS (ex_store_box (k := 2) (cs := [(I r3.1.1), (Sl a6 r3.1.2.1 c7), (I r3.1.2.2)]) (vs := [(I r48.1)]) (cs' := [(I r3.1.1), (Sl a6 r3.1.2.1 c7), (I r48.1)]) H (i := 2) rfl ti3 rfl rfl rfl rfl rfl (Nat.le_of_ble_eq_true rfl) (by simp [plain]) rfl) wn ?_
     rintro σ54 ⟨H, -⟩
     refine w_end (q_blk ?_)
     obtain rfl := si h
     exact ⟨rfl, _, σ54, a51, c52, a6, c7, fr_join ⟨rfl, rfl, rfl, trivial⟩, rfl, H.sel' [1, 2, 0, 3, 4] rfl rfl⟩
    ·replace h := bif_f hb43 h
     refine c_skip (q_blk ?_)
     obtain rfl := si h
     exact ⟨rfl, _, σ19, a17, c18, a6, c7, fr_join ⟨rfl, rfl, rfl, trivial⟩, rfl, H.sel' [0, 1, 2, 3, 5] rfl rfl⟩
 ·clear hj
  have h := h'
  clear h' H
  rintro e a w ⟨rfl, ρ, σ55, a56, c57, a58, c59, rfl, rfl, H⟩
  refine q_then (cr ?_)
  have hc60 := H.cells 2 rfl
  refine st (v := (.agg #[(I o20.2.1), (Sl a58 o20.2.2.1 c59), (I o20.2.2.2)])) (rv_load (cs := [(I o20.2.1), (Sl a58 o20.2.2.1 c59), (I o20.2.2.2)]) Tryz.underlying52 rfl ti52 rfl rfl hc60) ?_
  refine st_exS (ex_store_box (k := 0) (cs := [(I 0), (.slice none 0 0), (I 0)]) (vs := [(I o20.2.1), (Sl a58 o20.2.2.1 c59), (I o20.2.2.2)]) (cs' := [(I o20.2.1), (Sl a58 o20.2.2.1 c59), (I o20.2.2.2)]) H (i := 4) rfl ti52 rfl rfl rfl rfl rfl (Nat.le_of_ble_eq_true rfl) (by simp [plain]) rfl) wn ?_
  rintro σ61 ⟨H, -⟩
  refine we (c_ret ?_)
  obtain rfl := si h
  exact fin_ret (v := (.agg #[(I o20.2.1), (Sl a58 o20.2.2.1 c59), (I o20.2.2.2)])) (results_ok Tryz.results32 (res_cell rfl (run_cellRes (cs := [(I o20.2.1), (Sl a58 o20.2.2.1 c59), (I o20.2.2.2)]) Tryz.underlying52 rfl ti52 rfl (H.cells 0 rfl)) res_nil) rfl) ⟨a58, c59, a56, c57, rfl, rfl⟩ (H.sel' [4, 1, 2] rfl rfl)

theorem c_spec_anyStore {Ae : (List UInt8) × Int} {Ag : Option Addr} {Ah : Nat} {Ai Aj Ak : Nat} {Am Ao : List Value} {r : (List (Int × (List Int) × Int)) × ((List UInt8) × Int)} (h : M.spec_anyStore Ae = some r) :
    Cal2 Tryz.prog 13 [(pt Aj Ak)] [Ch.bx Ai Aj Ak [(Sl Ag Ae.1 Ah), (I Ae.2)] Am Ao, Ch.ro 0 (Sl Ag Ae.1 Ah) Ae.1] (fun n0 v L => ∃ (az1 : Option Addr), ∃ (cz2 : Nat), ∃ (az3 : Option Addr), ∃ (cz4 : Nat), v = (Sl az1 r.1 cz2) ∧ L = [Ch.own n0 n0 (Sl az1 r.1 cz2) r.1, Ch.bx Ai Aj Ak [(Sl az3 r.2.1 cz4), (I r.2.2)] Am Ao, Ch.ro 0 (Sl az3 r.2.1 cz4) r.2.1]) := by
 refine cal2 (n := 30) Tryz.func13 rfl rfl rfl rfl ?_
 intro S0 σ0 n0 hn0 H
 unfold M.spec_anyStore at h
 refine cr (sa (.slice none 0 0) rfl (we (cr (mv (pt Aj Ak) rfl ?_))))
 replace h := bind_some h
 obtain ⟨r1, hx2, h⟩ := h
 have hc3 := c_spec_someStore (Ai := Ai) (Aj := Aj) (Ak := Ak) (Am := Am) (Ao := Ao) (Ag := Ag) (Ah := Ah) hx2
 refine sc hc3 rfl hn0 (H.sel' [0, 1, 1] rfl rfl : Hp S0 σ0 _ ([_, _] ++ _)) ?_
 rintro _ σ8 ⟨_, ⟨a4, c5, a6, c7, rfl, rfl⟩, H, -⟩
 replace H : Hp _ _ _ [_, _, _, _] := H
 refine sa (Sl a4 r1.1 c5) rfl (we (c_seq (cr (mv (pt Aj Ak) rfl ?_))))
 replace h := bind_some h
 obtain ⟨r9, hx10, h⟩ := h
 have hc11 := c_spec_reader_pick (Ai := Ai) (Aj := Aj) (Ak := Ak) (Am := Am) (Ao := Ao) (Ag := a6) (Ah := c7) hx10
 refine sc hc11 rfl hn0 (H.sel' [1, 2, 0, 2, 3] rfl rfl : Hp S0 σ0 _ ([_, _] ++ _)) ?_
 rintro _ σ14 ⟨_, ⟨a12, c13, rfl, rfl⟩, H, -⟩
 replace H : Hp _ _ _ [_, _, _, _, _] := H
 refine we ?_
 obtain ⟨o15, hj, h'⟩ := bind_some h
 clear h
 refine c_cut (fun e a w => e = .normal ∧ ∃ (ρ : Nat → Value) (σ : St) (aj1 : Option Addr) (cj2 : Nat) (aj3 : Option Addr) (cj4 : Nat), a = fr 30 (updL ρ [(0, (pt Aj Ak)), (3, (Sl aj3 o15.2 cj4))]) ∧ w = σ.w ∧ Hp S0 σ0 σ [Ch.bx Ai Aj Ak [(Sl aj1 o15.1.1 cj2), (I o15.1.2)] Am Ao, Ch.ro 0 (Sl aj1 o15.1.1 cj2) o15.1.1, Ch.own n0 n0 (Sl aj3 o15.2 cj4) o15.2]) ?_ ?_
 ·clear h'
  rename _ = some o15 => h
  refine c_blk (cr (st (v := (B (r9.1 == 0))) (rv_eql (a := r9.1) (b := 0) rfl rfl) (sa (B (r9.1 == 0)) rfl (we ?_))))
  refine cd_cond (r9.1 == 0) rfl (fun hb16 => ?_) (fun hb16 => ?_)
  ·replace h := bif_t hb16 h
   refine rg (mv (Sl a4 r1.1 c5) rfl (mv (pt Aj Ak) rfl ?_))
   replace h := bind_some h
   obtain ⟨r17, hx18, h⟩ := h
   have hc19 := c_spec_anyItem (Ai := Ai) (Aj := Aj) (Ak := Ak) (Am := Am) (Ao := Ao) (Ag := a12) (Ah := c13) hx18
   refine sc hc19 rfl hn0 (H.sel' [0, 1, 1, 2, 3, 4] rfl rfl : Hp S0 σ0 _ ([_, _] ++ _)) ?_
   rintro _ σ24 ⟨_, ⟨a20, c21, a22, c23, rfl, rfl⟩, H, -⟩
   replace H : Hp _ _ _ [_, _, _, _, _, _, _] := H
   obtain ⟨σ25, hw26, H, -⟩ := H.pub 0 rfl (Nat.le_refl _)
   rw [← hw26]; clear hw26
   refine st_ex (ex_buildSlice (el := n0) (xs := ([(r17.1.1, r17.1.2.1, r17.1.2.2)] : List (Int × (List Int) × Int))) (ps := [(0, (.agg #[(I r17.1.1), (Sl a20 r17.1.2.1 c21), (I r17.1.2.2)]))]) (cs := [(I r17.1.1), (Sl a20 r17.1.2.1 c21), (I r17.1.2.2)]) H hn0 Tryz.underlying24 ti52 rfl rfl (by kernel_rfl) (.cons (c := [(I r17.1.1), (Sl a20 r17.1.2.1 c21), (I r17.1.2.2)]) ⟨[(I r17.1.1)], [(Sl a20 r17.1.2.1 c21), (I r17.1.2.2)], rfl, rfl, ⟨[(Sl a20 r17.1.2.1 c21)], [(I r17.1.2.2)], rfl, ⟨_, rfl, (H.ro 0 rfl)⟩, rfl⟩⟩ (.nil)) rfl) wn ?_
   rintro _ σ28 ⟨b27, rfl, H, -⟩
   replace H : Hp S0 σ0 σ28 [Ch.own n0 n0 (Sl (some ⟨b27, 0, none⟩) ([(r17.1.1, r17.1.2.1, r17.1.2.2)] : List (Int × (List Int) × Int)) 1) ([(r17.1.1, r17.1.2.1, r17.1.2.2)] : List (Int × (List Int) × Int)), Ch.bx Ai Aj Ak [(Sl a22 r17.2.1 c23), (I r17.2.2)] Am Ao, Ch.ro 0 (Sl a22 r17.2.1 c23) r17.2.1, Ch.own n0 n0 (Sl a4 r1.1 c5) r1.1] := H.sel' [0, 2, 3, 5] rfl rfl
   replace h := bind_some h
   obtain ⟨xs29, hx30, h⟩ := h
   refine st_ex (ex_append H (i := 3) rfl Tryz.underlying24 Tryz.underlying24 ti52 rfl rfl (by decide) (H.own 0 rfl).rd hx30 hn0 rfl rfl) wn ?_
   rintro _ σ33 ⟨a31, c32, rfl, H, -⟩
   refine sa (Sl a31 xs29 c32) rfl (w_end (q_blk ?_))
   obtain rfl := si h
   exact ⟨rfl, _, σ33, a22, c23, a31, c32, fr_join ⟨rfl, rfl, trivial⟩, rfl, H.sel' [2, 3, 0] rfl rfl⟩
  ·replace h := bif_f hb16 h
   refine cr (st (v := (B (r9.1 == 1))) (rv_eql (a := r9.1) (b := 1) rfl rfl) (sa (B (r9.1 == 1)) rfl (we ?_)))
   refine cd_cond (r9.1 == 1) rfl (fun hb34 => ?_) (fun hb34 => ?_)
   ·replace h := bif_t hb34 h
    refine cr (mv (Sl a4 r1.1 c5) rfl (st (v := (I (r1.1.length : Int))) (rv_len Tryz.underlying24 rfl) (st (v := (B (decide (0 < (r1.1.length : Int))))) (rv_gtr (a := (r1.1.length : Int)) (b := 0) rfl rfl) (we ?_))))
    refine cd_cond (decide (0 < (r1.1.length : Int))) rfl (fun hb35 => ?_) (fun hb35 => ?_)
    ·replace h := bif_t hb35 h
     refine rg (mv (Sl a4 r1.1 c5) rfl (mv (pt Aj Ak) rfl (mv (Sl a4 r1.1 c5) rfl (st (v := (I (r1.1.length : Int))) (rv_len Tryz.underlying24 rfl) ?_))))
     replace h := bind_some h
     obtain ⟨r36, hx37, h⟩ := h
     have hc38 := c_spec_reader_pick (Ai := Ai) (Aj := Aj) (Ak := Ak) (Am := Am) (Ao := Ao) (Ag := a12) (Ah := c13) hx37
     refine sc hc38 rfl hn0 (H.sel' [0, 1, 1, 2, 3, 4] rfl rfl : Hp S0 σ0 _ ([_, _] ++ _)) ?_
     rintro _ σ41 ⟨_, ⟨a39, c40, rfl, rfl⟩, H, -⟩
     replace H : Hp _ _ _ [_, _, _, _, _, _] := H
     refine mv (pt Aj Ak) rfl ?_
     replace h := bind_some h
     obtain ⟨r42, hx43, h⟩ := h
     have hc44 := c_spec_anyVector (Ai := Ai) (Aj := Aj) (Ak := Ak) (Am := Am) (Ao := Ao) (Ag := a39) (Ah := c40) hx43
     refine sc hc44 rfl hn0 (H.sel' [0, 1, 1, 2, 3, 4, 5] rfl rfl : Hp S0 σ0 _ ([_, _] ++ _)) ?_
     rintro _ σ49 ⟨_, ⟨a45, c46, a47, c48, rfl, rfl⟩, H, -⟩
     replace H : Hp _ _ _ [_, _, _, _, _, _, _, _] := H
     replace H : Hp S0 σ0 σ49 [Ch.own n0 n0 (Sl a45 r42.1 c46) r42.1, Ch.bx Ai Aj Ak [(Sl a47 r42.2.1 c48), (I r42.2.2)] Am Ao, Ch.ro 0 (Sl a47 r42.2.1 c48) r42.2.1, Ch.own n0 n0 (Sl a4 r1.1 c5) r1.1] := H.sel' [0, 1, 2, 5] rfl rfl
     replace h := bind_some h
     obtain ⟨x50, hx51, h⟩ := h
     obtain ⟨b53, o54, hi52, -⟩ := (H.own 3 rfl).ix hx51
     refine st (v := (pt b53 o54)) (rv_ix Tryz.underlying24 ti52 rfl rfl hi52) (st (v := (pt b53 (o54 + 1))) (rv_fieldAddr (off := 1) (ft := 25) Tryz.underlying52 rfl ti25 rfl rfl) ?_)
     obtain ⟨σ55, hw56, H, -⟩ := H.pub 0 rfl (Nat.le_refl _)
     rw [← hw56]; clear hw56
     refine st_exS (ex_store_own (e' := (x50.1, r42.1, x50.2.2)) (vs := [(Sl a45 r42.1 c46)]) (k := 1) H (i := 3) rfl ti25 hx51 hi52 rfl rfl rfl rfl rfl (Nat.le_of_ble_eq_true rfl) (by simp [plain]) (by rintro _ ⟨_, _, rfl, rfl, ⟨_, _, rfl, ⟨_, rfl, hR59⟩, rfl⟩⟩; exact ⟨[(I x50.1)], [(Sl a45 r42.1 c46), (I x50.2.2)], rfl, rfl, ⟨[(Sl a45 r42.1 c46)], [(I x50.2.2)], rfl, ⟨_, rfl, (H.ro 0 rfl)⟩, rfl⟩⟩)) wn ?_
     rintro σ60 ⟨H, -⟩
     have hsl : (Sl a4 r1.1 c5) = (Sl a4 (r1.1.set r36.1.toNat (x50.1, r42.1, x50.2.2)) c5) := sl_len List.length_set.symm
     rw [hsl]; rw [hsl] at H; clear hsl
     refine w_end (q_blk ?_)
     obtain rfl := si h
     exact ⟨rfl, _, σ60, a47, c48, a4, c5, fr_join ⟨rfl, rfl, trivial⟩, rfl, H.sel' [2, 3, 0] rfl rfl⟩
    ·replace h := bif_f hb35 h
     refine c_skip (q_blk ?_)
     obtain rfl := si h
     exact ⟨rfl, _, σ14, a12, c13, a4, c5, fr_join ⟨rfl, rfl, trivial⟩, rfl, H.sel' [0, 1, 2] rfl rfl⟩
   ·replace h := bif_f hb34 h
    refine c_skip (q_blk ?_)
    obtain rfl := si h
    exact ⟨rfl, _, σ14, a12, c13, a4, c5, fr_join ⟨rfl, rfl, trivial⟩, rfl, H.sel' [0, 1, 2] rfl rfl⟩
 ·clear hj
  have h := h'
  clear h' H
  rintro e a w ⟨rfl, ρ, σ61, a62, c63, a64, c65, rfl, rfl, H⟩
  refine q_then (cr (mv (Sl a64 o15.2 c65) rfl (sa (Sl a64 o15.2 c65) rfl (we (c_ret ?_)))))
  obtain rfl := si h
  exact fin_ret (v := (Sl a64 o15.2 c65)) (results_ok Tryz.results13 (res_tmp (v := (Sl a64 o15.2 c65)) rfl res_nil) rfl) ⟨a64, c65, a62, c63, rfl, rfl⟩ (H.sel' [2, 0, 1] rfl rfl)

theorem c_spec_someK {Ae : (List UInt8) × Int} {Ag : Option Addr} {Ah : Nat} {Ai Aj Ak : Nat} {Am Ao : List Value} {r : Int × ((List UInt8) × Int)} (h : M.spec_someK Ae = some r) :
    Cal2 Tryz.prog 16 [(pt Aj Ak)] [Ch.bx Ai Aj Ak [(Sl Ag Ae.1 Ah), (I Ae.2)] Am Ao, Ch.ro 0 (Sl Ag Ae.1 Ah) Ae.1] (fun n0 v L => ∃ (az1 : Option Addr), ∃ (cz2 : Nat), v = (I r.1) ∧ L = [Ch.bx Ai Aj Ak [(Sl az1 r.2.1 cz2), (I r.2.2)] Am Ao, Ch.ro 0 (Sl az1 r.2.1 cz2) r.2.1]) := by
 refine cal2 (n := 6) Tryz.func16 rfl rfl rfl rfl ?_
 intro S0 σ0 n0 hn0 H
 unfold M.spec_someK at h
 refine cr (sa (I 0) rfl (we (cr (mv (pt Aj Ak) rfl ?_))))
 refine st_ex (ex_buildSlice (el := n0) (xs := ([1, 2, 3, 5, 16, 4, 0, 17] : List Int)) (ps := [(0, (I 1)), (1, (I 2)), (2, (I 3)), (3, (I 5)), (4, (I 16)), (5, (I 4)), (6, (I 0)), (7, (I 17))]) (cs := [(I 1), (I 2), (I 3), (I 5), (I 16), (I 4), (I 0), (I 17)]) H hn0 Tryz.underlying25 ti3 rfl rfl (by kernel_rfl) (.cons (c := [(I 1)]) rfl (.cons (c := [(I 2)]) rfl (.cons (c := [(I 3)]) rfl (.cons (c := [(I 5)]) rfl (.cons (c := [(I 16)]) rfl (.cons (c := [(I 4)]) rfl (.cons (c := [(I 0)]) rfl (.cons (c := [(I 17)]) rfl (.nil))))))))) rfl) wn ?_
 rintro _ σ2 ⟨b1, rfl, H, -⟩
 obtain ⟨σ3, hw4, H, -⟩ := H.pub 0 rfl (Nat.le_refl _)
 rw [← hw4]; clear hw4
 replace H := H.roLow 0 0 rfl (Nat.zero_le _)
 replace h := bind_some h
 obtain ⟨r5, hx6, h⟩ := h
 have hc7 := c_spec_reader_one (Ai := Ai) (Aj := Aj) (Ak := Ak) (Am := Am) (Ao := Ao) (Ag := Ag) (Ah := Ah) (Aq := (some ⟨b1, 0, none⟩)) (Ar := 8) hx6
 refine sc hc7 rfl hn0 (H.sel' [2, 3, 0, 0, 1, 3] rfl rfl : Hp S0 σ0 _ ([_, _, _] ++ _)) ?_
 rintro _ σ10 ⟨_, ⟨a8, c9, rfl, rfl⟩, H, -⟩
 replace H : Hp _ _ _ [_, _, _, _, _] := H
 refine sa (I r5.1) rfl (we (c_ret ?_))
 obtain rfl := si h
 exact fin_ret (v := (I r5.1)) (results_ok Tryz.results16 (res_tmp (v := (I r5.1)) rfl res_nil) rfl) ⟨a8, c9, rfl, rfl⟩ (H.sel' [0, 1] rfl rfl)

theorem c_spec_DrawProbeNearest {Aa : List UInt8} {Ac : Option Addr} {Ad : Nat} {r : (List (List Int)) × (List (Int × (List Int) × Int)) × (List Int) × Int × Int} (h : M.spec_DrawProbeNearest Aa = some r) :
    Cal2 Tryz.prog 5 [(Sl Ac Aa Ad)] [Ch.ro 0 (Sl Ac Aa Ad) Aa] (fun n0 v L => ∃ (az1 : Option Addr), ∃ (cz2 : Nat), ∃ (az3 : Option Addr), ∃ (cz4 : Nat), ∃ (az5 : Option Addr), ∃ (cz6 : Nat), v = (.tuple #[(Sl az1 r.1 cz2), (Sl az3 r.2.1 cz4), (Sl az5 r.2.2.1 cz6), (I r.2.2.2.1), (I r.2.2.2.2)]) ∧ L = [Ch.own n0 n0 (Sl az1 r.1 cz2) r.1, Ch.own n0 n0 (Sl az3 r.2.1 cz4) r.2.1, Ch.own n0 n0 (Sl az5 r.2.2.1 cz6) r.2.2.1]) := by
 refine cal2 (n := 29) Tryz.func5 rfl rfl rfl rfl ?_
 intro S0 σ0 n0 hn0 H
 unfold M.spec_DrawProbeNearest at h
 refine cr (sa (.slice none 0 0) rfl (sa (.slice none 0 0) rfl (sa (.slice none 0 0) rfl (sa (I 0) rfl (sa (I 0) rfl (we (cr (mv (Sl Ac Aa Ad) rfl ?_))))))))
 replace h := bind_some h
 obtain ⟨r1, hx2, h⟩ := h
 have hc3 := c_spec_newReader (Ac := Ac) (Ad := Ad) hx2
 refine sc hc3 rfl hn0 (H.sel' [0, 0] rfl rfl : Hp S0 σ0 _ ([_] ++ _)) ?_
 rintro _ σ7 ⟨_, ⟨b4, a5, c6, rfl, rfl⟩, H, -⟩
 replace H : Hp _ _ _ [_, _, _] := H
 refine sa (pt b4 0) rfl (we (cr (mv (pt b4 0) rfl ?_)))
 replace h := bind_some h
 obtain ⟨r8, hx9, h⟩ := h
 have hc10 := c_spec_anyCentres (Ai := n0) (Aj := b4) (Ak := 0) (Am := []) (Ao := []) (Ag := a5) (Ah := c6) hx9
 refine sc hc10 rfl hn0 (H.sel' [0, 1, 1, 2] rfl rfl : Hp S0 σ0 _ ([_, _] ++ _)) ?_
 rintro _ σ15 ⟨_, ⟨a11, c12, a13, c14, rfl, rfl⟩, H, -⟩
 replace H : Hp _ _ _ [_, _, _, _, _] := H
 refine sa (Sl a11 r8.1 c12) rfl (we (cr (mv (pt b4 0) rfl ?_)))
 replace h := bind_some h
 obtain ⟨r16, hx17, h⟩ := h
 have hc18 := c_spec_anyStore (Ai := n0) (Aj := b4) (Ak := 0) (Am := []) (Ao := []) (Ag := a13) (Ah := c14) hx17
 refine sc hc18 rfl hn0 (H.sel' [1, 2, 0, 2, 3, 4] rfl rfl : Hp S0 σ0 _ ([_, _] ++ _)) ?_
 rintro _ σ23 ⟨_, ⟨a19, c20, a21, c22, rfl, rfl⟩, H, -⟩
 replace H : Hp _ _ _ [_, _, _, _, _, _, _] := H
 refine sa (Sl a19 r16.1 c20) rfl (we (cr (mv (pt b4 0) rfl ?_)))
 replace h := bind_some h
 obtain ⟨r24, hx25, h⟩ := h
 have hc26 := c_spec_anyVector (Ai := n0) (Aj := b4) (Ak := 0) (Am := []) (Ao := []) (Ag := a21) (Ah := c22) hx25
 refine sc hc26 rfl hn0 (H.sel' [1, 2, 0, 2, 3, 4, 5, 6] rfl rfl : Hp S0 σ0 _ ([_, _] ++ _)) ?_
 rintro _ σ31 ⟨_, ⟨a27, c28, a29, c30, rfl, rfl⟩, H, -⟩
 replace H : Hp _ _ _ [_, _, _, _, _, _, _, _, _] := H
 replace H : Hp S0 σ0 σ31 [Ch.own n0 n0 (Sl a27 r24.1 c28) r24.1, Ch.bx n0 b4 0 [(Sl a29 r24.2.1 c30), (I r24.2.2)] [] [], Ch.ro 0 (Sl a29 r24.2.1 c30) r24.2.1, Ch.own n0 n0 (Sl a19 r16.1 c20) r16.1, Ch.own n0 n0 (Sl a11 r8.1 c12) r8.1] := H.sel' [0, 1, 2, 3, 5] rfl rfl
 refine sa (Sl a27 r24.1 c28) rfl (we (cr (mv (pt b4 0) rfl ?_)))
 refine st_ex (ex_buildSlice (el := n0) (xs := ([1, 2, 3, 4, 0, 5, 1] : List Int)) (ps := [(0, (I 1)), (1, (I 2)), (2, (I 3)), (3, (I 4)), (4, (I 0)), (5, (I 5)), (6, (I 1))]) (cs := [(I 1), (I 2), (I 3), (I 4), (I 0), (I 5), (I 1)]) H hn0 Tryz.underlying25 ti3 rfl rfl (by kernel_rfl) (.cons (c := [(I 1)]) rfl (.cons (c := [(I 2)]) rfl (.cons (c := [(I 3)]) rfl (.cons (c := [(I 4)]) rfl (.cons (c := [(I 0)]) rfl (.cons (c := [(I 5)]) rfl (.cons (c := [(I 1)]) rfl (.nil)))))))) rfl) wn ?_
 rintro _ σ33 ⟨b32, rfl, H, -⟩
 obtain ⟨σ34, hw35, H, -⟩ := H.pub 0 rfl (Nat.le_refl _)
 rw [← hw35]; clear hw35
 replace H := H.roLow 0 0 rfl (Nat.zero_le _)
 replace h := bind_some h
 obtain ⟨r36, hx37, h⟩ := h
 have hc38 := c_spec_reader_one (Ai := n0) (Aj := b4) (Ak := 0) (Am := []) (Ao := []) (Ag := a29) (Ah := c30) (Aq := (some ⟨b32, 0, none⟩)) (Ar := 7) hx37
 refine sc hc38 rfl hn0 (H.sel' [3, 4, 0, 0, 1, 2, 4, 5, 6] rfl rfl : Hp S0 σ0 _ ([_, _, _] ++ _)) ?_
 rintro _ σ41 ⟨_, ⟨a39, c40, rfl, rfl⟩, H, -⟩
 replace H : Hp _ _ _ [_, _, _, _, _, _, _, _] := H
 replace H : Hp S0 σ0 σ41 [Ch.bx n0 b4 0 [(Sl a39 r36.2.1 c40), (I r36.2.2)] [] [], Ch.ro 0 (Sl a39 r36.2.1 c40) r36.2.1, Ch.own n0 n0 (Sl a27 r24.1 c28) r24.1, Ch.own n0 n0 (Sl a19 r16.1 c20) r16.1, Ch.own n0 n0 (Sl a11 r8.1 c12) r8.1] := H.sel' [0, 1, 4, 6, 7] rfl rfl
 refine sa (I r36.1) rfl (we (cr (mv (Sl a11 r8.1 c12) rfl (mv (Sl a19 r16.1 c20) rfl (mv (Sl a27 r24.1 c28) rfl (mv (I r36.1) rfl (mv (pt b4 0) rfl ?_)))))))
 replace h := bind_some h
 obtain ⟨r42, hx43, h⟩ := h
 have hc44 := c_spec_someK (Ai := n0) (Aj := b4) (Ak := 0) (Am := []) (Ao := []) (Ag := a39) (Ah := c40) hx43
 refine sc hc44 rfl hn0 (H.sel' [0, 1, 1, 2, 3, 4] rfl rfl : Hp S0 σ0 _ ([_, _] ++ _)) ?_
 rintro _ σ47 ⟨_, ⟨a45, c46, rfl, rfl⟩, H, -⟩
 replace H : Hp _ _ _ [_, _, _, _, _, _] := H
 refine sa (Sl a11 r8.1 c12) rfl (sa (Sl a19 r16.1 c20) rfl (sa (Sl a27 r24.1 c28) rfl (sa (I r36.1) rfl (sa (I r42.1) rfl (we (c_ret ?_))))))
 obtain rfl := si h
 exact fin_ret (v := (.tuple #[(Sl a11 r8.1 c12), (Sl a19 r16.1 c20), (Sl a27 r24.1 c28), (I r36.1), (I r42.1)])) (results_ok Tryz.results5 (res_tmp (v := (Sl a11 r8.1 c12)) rfl (res_tmp (v := (Sl a19 r16.1 c20)) rfl (res_tmp (v := (Sl a27 r24.1 c28)) rfl (res_tmp (v := (I r36.1)) rfl (res_tmp (v := (I r42.1)) rfl res_nil))))) rfl) ⟨a11, c12, a19, c20, a27, c28, rfl, rfl⟩ (H.sel' [5, 4, 3] rfl rfl)

theorem c_impl_ValidVector {Ba : List Int} {Bb : Option Addr} {Bc : Nat} {r : Bool} (h : M.impl_ValidVector Ba = some r) :
    Cal2 Tryz.prog 28 [(Sl Bb Ba Bc)] [Ch.ro 0 (Sl Bb Ba Bc) Ba] (fun n0 v L => v = (B r) ∧ L = []) := by
 refine cal2 (n := 21) Tryz.func28 rfl rfl rfl rfl ?_
 intro S0 σ0 n0 hn0 H
 unfold M.impl_ValidVector at h
 refine cr (sa (B false) rfl (we (c_seq (cr (mv (Sl Bb Ba Bc) rfl (st (v := (I (Ba.length : Int))) (rv_len Tryz.underlying25 rfl) (st (v := (B ((Ba.length : Int) != 4))) (rv_neq (a := (Ba.length : Int)) (b := 4) rfl rfl) (w_end ?_))))))))
 refine q_then ?_
 refine cd_cond ((Ba.length : Int) != 4) rfl (fun hb1 => ?_) (fun hb1 => ?_)
 ·replace h := bif_t hb1 h
  refine cr (sa (B false) rfl (we (c_ret (q_then_r ?_))))
  obtain rfl := si h
  exact fin_ret (v := (B false)) (results_ok Tryz.results28 (res_tmp (v := (B false)) rfl res_nil) rfl) ⟨rfl, rfl⟩ (H.sel' [] rfl rfl)
 ·replace h := bif_f hb1 h
  refine c_skip (q_then (c_seq (cr (mv (Sl Bb Ba Bc) rfl (st (v := (I (Ba.length : Int))) (rv_len Tryz.underlying25 rfl) (mv (I 0) rfl (we ?_)))))))
  obtain ⟨o2, hj, h'⟩ := bind_some h
  clear h
  refine c_cut (fun e a w => (∃ t, o2 = (.inl t) ∧ e = .normal ∧ ∃ (ρ : Nat → Value) (σ : St), a = fr 21 (updL ρ []) ∧ w = σ.w ∧ Hp S0 σ0 σ []) ∨ (∃ t, o2 = (.inr t) ∧ e = .ret ∧ ∃ (ρ : Nat → Value) (σ : St), a = fr 21 (updL ρ [(2, (B t))]) ∧ w = σ.w ∧ Hp S0 σ0 σ [])) ?_ ?_
  ·clear h'
   rename _ = some o2 => h
   refine c_blk (wp_loopM _ h (fun s3 a w => ∃ (ρ : Nat → Value) (σ : St), a = fr 21 (updL ρ [(8, (Sl Bb Ba Bc)), (9, (I (Ba.length : Int))), (10, (I s3))]) ∧ w = σ.w ∧ Hp S0 σ0 σ [Ch.ro 0 (Sl Bb Ba Bc) Ba]) ⟨_, σ0, fr_join ⟨rfl, rfl, rfl, trivial⟩, rfl, H.sel' [0] rfl rfl⟩ ?_)
   clear h H
   rintro s3 a w o ⟨ρ, σ4, rfl, rfl, H⟩ h hres
   refine cr (st (v := (B (decide (s3 < (Ba.length : Int))))) (rv_lss (a := s3) (b := (Ba.length : Int)) rfl rfl) (we (c_seq ?_)))
   refine cd_cond (decide (s3 < (Ba.length : Int))) rfl (fun hb5 => ?_) (fun hb5 => ?_)
   ·replace h := bif_t hb5 h
    refine c_skip (q_then (c_seq (c_blk (cr ?_))))
    replace h := bind_some h
    obtain ⟨x6, hx7, h⟩ := h
    obtain ⟨b9, o10, hi8, -⟩ := (H.ro 0 rfl).ix hx7
    refine st (v := (pt b9 o10)) (rv_ix Tryz.underlying25 ti3 rfl rfl hi8) ?_
    have hc11 := ((H.ro 0 rfl).at hx7 hi8).int
    refine st (v := (I x6)) (rv_load1 Tryz.underlying3 rfl rfl hc11) (sa (I x6) rfl (we (c_seq ?_)))
    obtain ⟨o12, hj, h'⟩ := bind_some h
    clear h
    refine c_cut (fun e a w => e = .normal ∧ ∃ (ρ : Nat → Value) (σ : St), a = fr 21 (updL ρ [(8, (Sl Bb Ba Bc)), (9, (I (Ba.length : Int))), (10, (I s3)), (19, (B o12))]) ∧ w = σ.w ∧ Hp S0 σ0 σ [Ch.ro 0 (Sl Bb Ba Bc) Ba]) ?_ ?_
    ·clear h'
     rename _ = some o12 => h
     refine rg (mv (I x6) rfl (st (v := (B (decide (x6 < (-100))))) (rv_lss (a := x6) (b := (-100)) rfl rfl) (mv (B (decide (x6 < (-100)))) rfl ?_)))
     rcases Bool.eq_false_or_eq_true (decide (x6 < (-100))) with hb13 | hb13
     ·replace h := bif_t hb13 h
      refine st_skip (congrArg some hb13) (st_skip (congrArg some hb13) (st (v := (B true)) (rv_pick_t (congrArg B hb13) rfl) (w_end ?_)))
      obtain rfl := si h
      exact ⟨rfl, _, σ4, fr_join ⟨rfl, rfl, rfl, rfl, trivial⟩, rfl, H.sel' [0] rfl rfl⟩
     ·replace h := bif_f hb13 h
      refine st_g (v := (I x6)) (congrArg some hb13) (rv_move rfl) (st_g (v := (B (decide (100 < x6)))) (congrArg some hb13) (rv_gtr (a := x6) (b := 100) rfl rfl) (st (v := (B (decide (100 < x6)))) (rv_pick_f (congrArg B hb13) rfl) (w_end ?_)))
      obtain rfl := si h
      exact ⟨rfl, _, σ4, fr_join ⟨rfl, rfl, rfl, rfl, trivial⟩, rfl, H.sel' [0] rfl rfl⟩
    ·clear hj
     have h := h'
     clear h' H
     rintro e a w ⟨rfl, ρ, σ14, rfl, rfl, H⟩
     refine q_then ?_
     refine cd_cond o12 rfl (fun hb15 => ?_) (fun hb15 => ?_)
     ·replace h := bif_t hb15 h
      refine cr (sa (B false) rfl (we (c_ret (q_blk_r (q_then_r (q_then_r (q_blk_r ?_)))))))
      obtain rfl := si h
      obtain rfl := hres _ rfl
      exact .inr (⟨_, rfl, rfl, _, σ14, fr_join ⟨rfl, trivial⟩, rfl, H.sel' [] rfl rfl⟩)
     ·replace h := bif_f hb15 h
      refine c_skip (q_blk (q_then (rg (st (v := (I (w64 (s3 + 1)))) (rv_add (a := s3) (b := 1) rfl rfl) (mv (I (w64 (s3 + 1))) rfl (we ?_))))))
      obtain rfl := si h
      exact ⟨_, rfl, _, σ14, fr_join ⟨rfl, rfl, rfl, trivial⟩, rfl, H.sel' [0] rfl rfl⟩
   ·replace h := bif_f hb5 h
    refine c_exit (q_then_x (q_then_x (q_blk_hit ?_)))
    obtain rfl := si h
    obtain rfl := hres _ rfl
    exact .inl ⟨_, rfl, rfl, _, σ4, fr_join trivial, rfl, H.sel' [] rfl rfl⟩
  ·clear hj
   have h := h'
   clear h' H
   rintro e a w (⟨t16, rfl, rfl, ρ, σ17, rfl, rfl, H⟩ | ⟨t18, rfl, rfl, ρ, σ19, rfl, rfl, H⟩)
   ·replace h := selim_l h
    refine q_then (cr (sa (B true) rfl (we (c_ret ?_))))
    obtain rfl := si h
    exact fin_ret (v := (B true)) (results_ok Tryz.results28 (res_tmp (v := (B true)) rfl res_nil) rfl) ⟨rfl, rfl⟩ (H.sel' [] rfl rfl)
   ·replace h := selim_r h
    refine q_then_r ?_
    obtain rfl := si h
    exact fin_ret (v := (B t18)) (results_ok Tryz.results28 (res_tmp (v := (B t18)) rfl res_nil) rfl) ⟨rfl, rfl⟩ (H.sel' [] rfl rfl)

theorem c_impl_ValidCentres {As : List (List Int)} {Au : Option Addr} {Av : Nat} {r : Bool} (h : M.impl_ValidCentres As = some r) :
    Cal2 Tryz.prog 9 [(Sl Au As Av)] [Ch.ro 0 (Sl Au As Av) As] (fun n0 v L => v = (B r) ∧ L = []) := by
 refine cal2 (n := 23) Tryz.func9 rfl rfl rfl rfl ?_
 intro S0 σ0 n0 hn0 H
 unfold M.impl_ValidCentres at h
 refine cr (sa (B false) rfl (we (c_seq (c_seq ?_))))
 obtain ⟨o1, hj, h'⟩ := bind_some h
 clear h
 refine c_cut (fun e a w => e = .normal ∧ ∃ (ρ : Nat → Value) (σ : St), a = fr 23 (updL ρ [(0, (Sl Au As Av)), (12, (B o1))]) ∧ w = σ.w ∧ Hp S0 σ0 σ [Ch.ro 0 (Sl Au As Av) As]) ?_ ?_
 ·clear h'
  rename _ = some o1 => h
  refine rg (mv (Sl Au As Av) rfl (st (v := (I (As.length : Int))) (rv_len Tryz.underlying23 rfl) (st (v := (B (decide ((As.length : Int) < 1)))) (rv_lss (a := (As.length : Int)) (b := 1) rfl rfl) (mv (B (decide ((As.length : Int) < 1))) rfl ?_))))
  rcases Bool.eq_false_or_eq_true (decide ((As.length : Int) < 1)) with hb2 | hb2
  ·replace h := bif_t hb2 h
   refine st_skip (congrArg some hb2) (st_skip (congrArg some hb2) (st_skip (congrArg some hb2) (st (v := (B true)) (rv_pick_t (congrArg B hb2) rfl) (w_end ?_))))
   obtain rfl := si h
   exact ⟨rfl, _, σ0, fr_join ⟨rfl, rfl, trivial⟩, rfl, H.sel' [0] rfl rfl⟩
  ·replace h := bif_f hb2 h
   refine st_g (v := (Sl Au As Av)) (congrArg some hb2) (rv_move rfl) (st_g (v := (I (As.length : Int))) (congrArg some hb2) (rv_len Tryz.underlying23 rfl) (st_g (v := (B (decide (4 < (As.length : Int))))) (congrArg some hb2) (rv_gtr (a := (As.length : Int)) (b := 4) rfl rfl) (st (v := (B (decide (4 < (As.length : Int))))) (rv_pick_f (congrArg B hb2) rfl) (w_end ?_))))
   obtain rfl := si h
   exact ⟨rfl, _, σ0, fr_join ⟨rfl, rfl, trivial⟩, rfl, H.sel' [0] rfl rfl⟩
 ·clear hj
  have h := h'
  clear h' H
  rintro e a w ⟨rfl, ρ, σ3, rfl, rfl, H⟩
  refine q_then ?_
  refine cd_cond o1 rfl (fun hb4 => ?_) (fun hb4 => ?_)
  ·replace h := bif_t hb4 h
   refine cr (sa (B false) rfl (we (c_ret (q_then_r ?_))))
   obtain rfl := si h
   exact fin_ret (v := (B false)) (results_ok Tryz.results9 (res_tmp (v := (B false)) rfl res_nil) rfl) ⟨rfl, rfl⟩ (H.sel' [] rfl rfl)
  ·replace h := bif_f hb4 h
   refine c_skip (q_then (c_seq (cr (mv (Sl Au As Av) rfl (st (v := (I (As.length : Int))) (rv_len Tryz.underlying23 rfl) (mv (I 0) rfl (we ?_)))))))
   obtain ⟨o5, hj, h'⟩ := bind_some h
   clear h
   refine c_cut (fun e a w => (∃ t, o5 = (.inl t) ∧ e = .normal ∧ ∃ (ρ : Nat → Value) (σ : St), a = fr 23 (updL ρ []) ∧ w = σ.w ∧ Hp S0 σ0 σ []) ∨ (∃ t, o5 = (.inr t) ∧ e = .ret ∧ ∃ (ρ : Nat → Value) (σ : St), a = fr 23 (updL ρ [(2, (B t))]) ∧ w = σ.w ∧ Hp S0 σ0 σ [])) ?_ ?_
   ·clear h'
    rename _ = some o5 => h
    refine c_blk (wp_loopM _ h (fun s6 a w => ∃ (ρ : Nat → Value) (σ : St), a = fr 23 (updL ρ [(13, (Sl Au As Av)), (14, (I (As.length : Int))), (15, (I s6))]) ∧ w = σ.w ∧ Hp S0 σ0 σ [Ch.ro 0 (Sl Au As Av) As]) ⟨_, σ3, fr_join ⟨rfl, rfl, rfl, trivial⟩, rfl, H.sel' [0] rfl rfl⟩ ?_)
    clear h H
    rintro s6 a w o ⟨ρ, σ7, rfl, rfl, H⟩ h hres
    refine cr (st (v := (B (decide (s6 < (As.length : Int))))) (rv_lss (a := s6) (b := (As.length : Int)) rfl rfl) (we (c_seq ?_)))
    refine cd_cond (decide (s6 < (As.length : Int))) rfl (fun hb8 => ?_) (fun hb8 => ?_)
    ·replace h := bif_t hb8 h
     refine c_skip (q_then (c_seq (c_blk (cr ?_))))
     replace h := bind_some h
     obtain ⟨x9, hx10, h⟩ := h
     obtain ⟨b12, o13, hi11, -⟩ := (H.ro 0 rfl).ix hx10
     refine st (v := (pt b12 o13)) (rv_ix Tryz.underlying23 ti25 rfl rfl hi11) ?_
     obtain ⟨v17, hc18, hR16⟩ := ((H.ro 0 rfl).at hx10 hi11).slice
     obtain ⟨a14, c15, rfl⟩ := hR16.isSl
     replace H := H.add (d := Ch.ro 0 (Sl a14 x9 c15) x9) hR16 (fun _ h => h)
     clear hR16
     refine st (v := (Sl a14 x9 c15)) (rv_load1 Tryz.underlying25 rfl rfl hc18) (sa (Sl a14 x9 c15) rfl (we (cr (mv (Sl a14 x9 c15) rfl ?_))))
     replace h := bind_some h
     obtain ⟨r19, hx20, h⟩ := h
     have hc21 := c_impl_ValidVector (Bb := a14) (Bc := c15) hx20
     refine sc hc21 rfl hn0 (H.sel' [0, 0, 1] rfl rfl : Hp S0 σ0 _ ([_] ++ _)) ?_
     rintro _ σ22 ⟨_, ⟨rfl, rfl⟩, H, -⟩
     replace H : Hp _ _ _ [_, _] := H
     refine st (v := (B (!r19))) (rv_not rfl) (we ?_)
     refine cd_cond (!r19) rfl (fun hb23 => ?_) (fun hb23 => ?_)
     ·replace h := bif_t hb23 h
      refine cr (sa (B false) rfl (we (c_ret (q_blk_r (q_then_r (q_then_r (q_blk_r ?_)))))))
      obtain rfl := si h
      obtain rfl := hres _ rfl
      exact .inr (⟨_, rfl, rfl, _, σ22, fr_join ⟨rfl, trivial⟩, rfl, H.sel' [] rfl rfl⟩)
     ·replace h := bif_f hb23 h
      refine c_skip (q_blk (q_then (rg (st (v := (I (w64 (s6 + 1)))) (rv_add (a := s6) (b := 1) rfl rfl) (mv (I (w64 (s6 + 1))) rfl (we ?_))))))
      obtain rfl := si h
      exact ⟨_, rfl, _, σ22, fr_join ⟨rfl, rfl, rfl, trivial⟩, rfl, H.sel' [1] rfl rfl⟩
    ·replace h := bif_f hb8 h
     refine c_exit (q_then_x (q_then_x (q_blk_hit ?_)))
     obtain rfl := si h
     obtain rfl := hres _ rfl
     exact .inl ⟨_, rfl, rfl, _, σ7, fr_join trivial, rfl, H.sel' [] rfl rfl⟩
   ·clear hj
    have h := h'
    clear h' H
    rintro e a w (⟨t24, rfl, rfl, ρ, σ25, rfl, rfl, H⟩ | ⟨t26, rfl, rfl, ρ, σ27, rfl, rfl, H⟩)
    ·replace h := selim_l h
     refine q_then (cr (sa (B true) rfl (we (c_ret ?_))))
     obtain rfl := si h
     exact fin_ret (v := (B true)) (results_ok Tryz.results9 (res_tmp (v := (B true)) rfl res_nil) rfl) ⟨rfl, rfl⟩ (H.sel' [] rfl rfl)
    ·replace h := selim_r h
     refine q_then_r ?_
     obtain rfl := si h
     exact fin_ret (v := (B t26)) (results_ok Tryz.results9 (res_tmp (v := (B t26)) rfl res_nil) rfl) ⟨rfl, rfl⟩ (H.sel' [] rfl rfl)

theorem c_impl_validProbe {Bj : List (List Int)} {Bk : List Int} {Bl : Int} {Bm : Option Addr} {Bn : Nat} {Bo : Option Addr} {Bp : Nat} {r : Bool} (h : M.impl_validProbe Bj Bk Bl = some r) :
    Cal2 Tryz.prog 17 [(Sl Bm Bj Bn), (Sl Bo Bk Bp), (I Bl)] [Ch.ro 0 (Sl Bm Bj Bn) Bj, Ch.ro 0 (Sl Bo Bk Bp) Bk] (fun n0 v L => v = (B r) ∧ L = []) := by
 refine cal2 (n := 21) Tryz.func17 rfl rfl rfl rfl ?_
 intro S0 σ0 n0 hn0 H
 unfold M.impl_validProbe at h
 refine cr (sa (B false) rfl (we (cr (mv (Sl Bm Bj Bn) rfl ?_))))
 replace h := bind_some h
 obtain ⟨r1, hx2, h⟩ := h
 have hc3 := c_impl_ValidCentres (Au := Bm) (Av := Bn) hx2
 refine sc hc3 rfl hn0 (H.sel' [0, 0, 1] rfl rfl : Hp S0 σ0 _ ([_] ++ _)) ?_
 rintro _ σ4 ⟨_, ⟨rfl, rfl⟩, H, -⟩
 replace H : Hp _ _ _ [_, _] := H
 refine mv (B r1) rfl ?_
 rcases Bool.eq_false_or_eq_true r1 with hb5 | hb5
 ·replace h := bif_t hb5 h
  refine st_g (v := (Sl Bo Bk Bp)) (congrArg some hb5) (rv_move rfl) ?_
  replace h := bind_some h
  obtain ⟨r6, hx7, h⟩ := h
  have hc8 := c_impl_ValidVector (Bb := Bo) (Bc := Bp) hx7
  refine st_call (cx_call hc8 (ent_f hc8.fn rfl) hn0 (H.sel' [1, 0, 1] rfl rfl : Hp S0 σ0 _ ([_] ++ _))) (wanted_yes rfl (by exact (congrArg some hb5))) ?_
  rintro _ σ9 ⟨_, ⟨rfl, rfl⟩, H, -⟩
  replace H : Hp _ _ _ [_, _] := H
  refine st (v := (B r6)) (rv_pick_t (congrArg B hb5) rfl) (mv (B r6) rfl ?_)
  rcases Bool.eq_false_or_eq_true r6 with hb10 | hb10
  ·replace h := bif_t hb10 h
   refine st_g (v := (I Bl)) (congrArg some hb10) (rv_move rfl) (st_g (v := (B (decide (1 ≤ Bl)))) (congrArg some hb10) (rv_geq (a := Bl) (b := 1) rfl rfl) (st (v := (B (decide (1 ≤ Bl)))) (rv_pick_t (congrArg B hb10) rfl) (mv (B (decide (1 ≤ Bl))) rfl ?_)))
   rcases Bool.eq_false_or_eq_true (decide (1 ≤ Bl)) with hb11 | hb11
   ·replace h := bif_t hb11 h
    refine st_g (v := (I Bl)) (congrArg some hb11) (rv_move rfl) (st_g (v := (B (decide (Bl ≤ 4)))) (congrArg some hb11) (rv_leq (a := Bl) (b := 4) rfl rfl) (st (v := (B (decide (Bl ≤ 4)))) (rv_pick_t (congrArg B hb11) rfl) (sa (B (decide (Bl ≤ 4))) rfl (we (c_ret ?_)))))
    obtain rfl := si h
    exact fin_ret (v := (B (decide (Bl ≤ 4)))) (results_ok Tryz.results17 (res_tmp (v := (B (decide (Bl ≤ 4)))) rfl res_nil) rfl) ⟨rfl, rfl⟩ (H.sel' [] rfl rfl)
   ·replace h := bif_f hb11 h
    refine st_skip (congrArg some hb11) (st_skip (congrArg some hb11) (st (v := (B false)) (rv_pick_f (congrArg B hb11) rfl) (sa (B false) rfl (we (c_ret ?_)))))
    obtain rfl := si h
    exact fin_ret (v := (B false)) (results_ok Tryz.results17 (res_tmp (v := (B false)) rfl res_nil) rfl) ⟨rfl, rfl⟩ (H.sel' [] rfl rfl)
  ·replace h := bif_f hb10 h
   refine st_skip (congrArg some hb10) (st_skip (congrArg some hb10) (st (v := (B false)) (rv_pick_f (congrArg B hb10) rfl) (mv (B false) rfl (st_skip rfl (st_skip rfl (st (v := (B false)) (rv_pick_f rfl rfl) (sa (B false) rfl (we (c_ret ?_)))))))))
   obtain rfl := si h
   exact fin_ret (v := (B false)) (results_ok Tryz.results17 (res_tmp (v := (B false)) rfl res_nil) rfl) ⟨rfl, rfl⟩ (H.sel' [] rfl rfl)
 ·replace h := bif_f hb5 h
  refine st_skip (congrArg some hb5) (st_skip (congrArg some hb5) (st (v := (B false)) (rv_pick_f (congrArg B hb5) rfl) (mv (B false) rfl (st_skip rfl (st_skip rfl (st (v := (B false)) (rv_pick_f rfl rfl) (mv (B false) rfl (st_skip rfl (st_skip rfl (st (v := (B false)) (rv_pick_f rfl rfl) (sa (B false) rfl ?_)))))))))))
  refine we (c_ret ?_)
  obtain rfl := si h
  exact fin_ret (v := (B false)) (results_ok Tryz.results17 (res_tmp (v := (B false)) rfl res_nil) rfl) ⟨rfl, rfl⟩ (H.sel' [] rfl rfl)

theorem c_impl_validKey {Bq : Int}  {r : Bool} (h : M.impl_validKey Bq = some r) :
    Cal2 Tryz.prog 68 [(I Bq)] [] (fun n0 v L => v = (B r) ∧ L = []) := by
 refine cal2 (n := 9) Tryz.func68 rfl rfl rfl rfl ?_
 intro S0 σ0 n0 hn0 H
 unfold M.impl_validKey at h
 refine cr (sa (B false) rfl (we (cr (mv (I Bq) rfl (st (v := (B (decide (1 ≤ Bq)))) (rv_geq (a := Bq) (b := 1) rfl rfl) (mv (B (decide (1 ≤ Bq))) rfl ?_))))))
 rcases Bool.eq_false_or_eq_true (decide (1 ≤ Bq)) with hb1 | hb1
 ·replace h := bif_t hb1 h
  refine st_g (v := (I Bq)) (congrArg some hb1) (rv_move rfl) (st_g (v := (B (decide (Bq ≤ 99)))) (congrArg some hb1) (rv_leq (a := Bq) (b := 99) rfl rfl) (st (v := (B (decide (Bq ≤ 99)))) (rv_pick_t (congrArg B hb1) rfl) (sa (B (decide (Bq ≤ 99))) rfl (we (c_ret ?_)))))
  obtain rfl := si h
  exact fin_ret (v := (B (decide (Bq ≤ 99)))) (results_ok Tryz.results68 (res_tmp (v := (B (decide (Bq ≤ 99)))) rfl res_nil) rfl) ⟨rfl, rfl⟩ (H.sel' [] rfl rfl)
 ·replace h := bif_f hb1 h
  refine st_skip (congrArg some hb1) (st_skip (congrArg some hb1) (st (v := (B false)) (rv_pick_f (congrArg B hb1) rfl) (sa (B false) rfl (we (c_ret ?_)))))
  obtain rfl := si h
  exact fin_ret (v := (B false)) (results_ok Tryz.results68 (res_tmp (v := (B false)) rfl res_nil) rfl) ⟨rfl, rfl⟩ (H.sel' [] rfl rfl)

theorem c_impl_validItem {Bd : Int × (List Int) × Int} {Be : Option Addr} {Bf : Nat} {r : Bool} (h : M.impl_validItem Bd = some r) :
    Cal2 Tryz.prog 51 [(.agg #[(I Bd.1), (Sl Be Bd.2.1 Bf), (I Bd.2.2)])] [Ch.ro 0 (Sl Be Bd.2.1 Bf) Bd.2.1] (fun n0 v L => v = (B r) ∧ L = []) := by
 refine cal2 (n := 21) Tryz.func51 rfl rfl rfl rfl ?_
 intro S0 σ0 n0 hn0 H
 unfold M.impl_validItem at h
 refine cr (st_ex (ex_box (cs := [(I Bd.1), (Sl Be Bd.2.1 Bf), (I Bd.2.2)]) H hn0 rfl rfl) wn ?_)
 rintro _ σ2 ⟨b1, rfl, H, -⟩
 refine sa (B false) rfl (we (cr (st (v := (pt b1 0)) (rv_fieldAddr (off := 0) (ft := 3) Tryz.underlying52 rfl ti3 rfl rfl) ?_)))
 have hc3 := H.cell (u := (I Bd.1)) (o' := 0) 0 0 rfl rfl rfl
 refine st (v := (I Bd.1)) (rv_load1 Tryz.underlying3 rfl rfl hc3) ?_
 replace h := bind_some h
 obtain ⟨r4, hx5, h⟩ := h
 have hc6 := c_impl_validKey hx5
 refine sc hc6 rfl hn0 (H.sel' [0, 1] rfl rfl : Hp S0 σ0 _ ([] ++ _)) ?_
 rintro _ σ7 ⟨_, ⟨rfl, rfl⟩, H, -⟩
 replace H : Hp _ _ _ [_, _] := H
 refine mv (B r4) rfl ?_
 rcases Bool.eq_false_or_eq_true r4 with hb8 | hb8
 ·replace h := bif_t hb8 h
  refine st_g (v := (pt b1 1)) (congrArg some hb8) (rv_fieldAddr (off := 1) (ft := 25) Tryz.underlying52 rfl ti25 rfl rfl) ?_
  have hc9 := H.cell (u := (Sl Be Bd.2.1 Bf)) (o' := 1) 0 1 rfl rfl rfl
  refine st_g (v := (Sl Be Bd.2.1 Bf)) (congrArg some hb8) (rv_load1 Tryz.underlying25 rfl rfl hc9) ?_
  replace h := bind_some h
  obtain ⟨r10, hx11, h⟩ := h
  have hc12 := c_impl_ValidVector (Bb := Be) (Bc := Bf) hx11
  refine st_call (cx_call hc12 (ent_f hc12.fn rfl) hn0 (H.sel' [1, 0, 1] rfl rfl : Hp S0 σ0 _ ([_] ++ _))) (wanted_yes rfl (by exact (congrArg some hb8))) ?_
  rintro _ σ13 ⟨_, ⟨rfl, rfl⟩, H, -⟩
  replace H : Hp _ _ _ [_, _] := H
  refine st (v := (B r10)) (rv_pick_t (congrArg B hb8) rfl) (mv (B r10) rfl ?_)
  rcases Bool.eq_false_or_eq_true r10 with hb14 | hb14
  ·replace h := bif_t hb14 h
   refine st_g (v := (pt b1 2)) (congrArg some hb14) (rv_fieldAddr (off := 2) (ft := 3) Tryz.underlying52 rfl ti3 rfl rfl) ?_
   have hc15 := H.cell (u := (I Bd.2.2)) (o' := 2) 0 2 rfl rfl rfl
   refine st_g (v := (I Bd.2.2)) (congrArg some hb14) (rv_load1 Tryz.underlying3 rfl rfl hc15) (st_g (v := (B (decide (0 ≤ Bd.2.2)))) (congrArg some hb14) (rv_geq (a := Bd.2.2) (b := 0) rfl rfl) (st (v := (B (decide (0 ≤ Bd.2.2)))) (rv_pick_t (congrArg B hb14) rfl) (mv (B (decide (0 ≤ Bd.2.2))) rfl ?_)))
   rcases Bool.eq_false_or_eq_true (decide (0 ≤ Bd.2.2)) with hb16 | hb16
   ·replace h := bif_t hb16 h
    refine st_g (v := (pt b1 2)) (congrArg some hb16) (rv_fieldAddr (off := 2) (ft := 3) Tryz.underlying52 rfl ti3 rfl rfl) ?_
    have hc17 := H.cell (u := (I Bd.2.2)) (o' := 2) 0 2 rfl rfl rfl
    refine st_g (v := (I Bd.2.2)) (congrArg some hb16) (rv_load1 Tryz.underlying3 rfl rfl hc17) (st_g (v := (B (decide (Bd.2.2 ≤ 15)))) (congrArg some hb16) (rv_leq (a := Bd.2.2) (b := 15) rfl rfl) (st (v := (B (decide (Bd.2.2 ≤ 15)))) (rv_pick_t (congrArg B hb16) rfl) (sa (B (decide (Bd.2.2 ≤ 15))) rfl (we (c_ret ?_)))))
    obtain rfl := si h
    exact fin_ret (v := (B (decide (Bd.2.2 ≤ 15)))) (results_ok Tryz.results51 (res_tmp (v := (B (decide (Bd.2.2 ≤ 15)))) rfl res_nil) rfl) ⟨rfl, rfl⟩ (H.sel' [] rfl rfl)
   ·replace h := bif_f hb16 h
    refine st_skip (congrArg some hb16) (st_skip (congrArg some hb16) (st_skip (congrArg some hb16) (st (v := (B false)) (rv_pick_f (congrArg B hb16) rfl) (sa (B false) rfl (we (c_ret ?_))))))
    obtain rfl := si h
    exact fin_ret (v := (B false)) (results_ok Tryz.results51 (res_tmp (v := (B false)) rfl res_nil) rfl) ⟨rfl, rfl⟩ (H.sel' [] rfl rfl)
  ·replace h := bif_f hb14 h
   refine st_skip (congrArg some hb14) (st_skip (congrArg some hb14) (st_skip (congrArg some hb14) (st (v := (B false)) (rv_pick_f (congrArg B hb14) rfl) (mv (B false) rfl (st_skip rfl (st_skip rfl (st_skip rfl (st (v := (B false)) (rv_pick_f rfl rfl) (sa (B false) rfl (we ?_))))))))))
   refine c_ret ?_
   obtain rfl := si h
   exact fin_ret (v := (B false)) (results_ok Tryz.results51 (res_tmp (v := (B false)) rfl res_nil) rfl) ⟨rfl, rfl⟩ (H.sel' [] rfl rfl)
 ·replace h := bif_f hb8 h
  refine st_skip (congrArg some hb8) (st_skip (congrArg some hb8) (st_skip (congrArg some hb8) (st (v := (B false)) (rv_pick_f (congrArg B hb8) rfl) (mv (B false) rfl (st_skip rfl (st_skip rfl (st_skip rfl (st (v := (B false)) (rv_pick_f rfl rfl) (mv (B false) rfl (st_skip rfl (st_skip rfl ?_)))))))))))
  refine st_skip rfl (st (v := (B false)) (rv_pick_f rfl rfl) (sa (B false) rfl (we (c_ret ?_))))
  obtain rfl := si h
  exact fin_ret (v := (B false)) (results_ok Tryz.results51 (res_tmp (v := (B false)) rfl res_nil) rfl) ⟨rfl, rfl⟩ (H.sel' [] rfl rfl)

theorem c_impl_ValidStore {As : List (Int × (List Int) × Int)} {Au : Option Addr} {Av : Nat} {r : Bool} (h : M.impl_ValidStore As = some r) :
    Cal2 Tryz.prog 35 [(Sl Au As Av)] [Ch.ro 0 (Sl Au As Av) As] (fun n0 v L => v = (B r) ∧ L = []) := by
 refine cal2 (n := 27) Tryz.func35 rfl rfl rfl rfl ?_
 intro S0 σ0 n0 hn0 H
 unfold M.impl_ValidStore at h
 refine cr (sa (B false) rfl (we (c_seq (cr (mv (Sl Au As Av) rfl (st (v := (I (As.length : Int))) (rv_len Tryz.underlying24 rfl) (st (v := (B (decide (16 < (As.length : Int))))) (rv_gtr (a := (As.length : Int)) (b := 16) rfl rfl) (w_end ?_))))))))
 refine q_then ?_
 refine cd_cond (decide (16 < (As.length : Int))) rfl (fun hb1 => ?_) (fun hb1 => ?_)
 ·replace h := bif_t hb1 h
  refine cr (sa (B false) rfl (we (c_ret (q_then_r ?_))))
  obtain rfl := si h
  exact fin_ret (v := (B false)) (results_ok Tryz.results35 (res_tmp (v := (B false)) rfl res_nil) rfl) ⟨rfl, rfl⟩ (H.sel' [] rfl rfl)
 ·replace h := bif_f hb1 h
  refine c_skip (q_then (cr (sa (I 0) rfl (we (c_seq (cr (mv (Sl Au As Av) rfl (st (v := (I (As.length : Int))) (rv_len Tryz.underlying24 rfl) ?_))))))))
  refine mv (I 0) rfl (we ?_)
  obtain ⟨o2, hj, h'⟩ := bind_some h
  clear h
  refine c_cut (fun e a w => (∃ t, o2 = (.inl t) ∧ e = .normal ∧ ∃ (ρ : Nat → Value) (σ : St), a = fr 27 (updL ρ []) ∧ w = σ.w ∧ Hp S0 σ0 σ []) ∨ (∃ t, o2 = (.inr t) ∧ e = .ret ∧ ∃ (ρ : Nat → Value) (σ : St), a = fr 27 (updL ρ [(2, (B t))]) ∧ w = σ.w ∧ Hp S0 σ0 σ [])) ?_ ?_
  ·clear h'
   rename _ = some o2 => h
   refine c_blk (wp_loopM _ h (fun s3 a w => ∃ (ρ : Nat → Value) (σ : St), a = fr 27 (updL ρ [(3, (I s3.1)), (9, (Sl Au As Av)), (10, (I (As.length : Int))), (11, (I s3.2))]) ∧ w = σ.w ∧ Hp S0 σ0 σ [Ch.ro 0 (Sl Au As Av) As]) ⟨_, σ0, fr_join ⟨rfl, rfl, rfl, rfl, trivial⟩, rfl, H.sel' [0] rfl rfl⟩ ?_)
   clear h H
   rintro s3 a w o ⟨ρ, σ4, rfl, rfl, H⟩ h hres
   refine cr (st (v := (B (decide (s3.2 < (As.length : Int))))) (rv_lss (a := s3.2) (b := (As.length : Int)) rfl rfl) (we (c_seq ?_)))
   refine cd_cond (decide (s3.2 < (As.length : Int))) rfl (fun hb5 => ?_) (fun hb5 => ?_)
   ·replace h := bif_t hb5 h
    refine c_skip (q_then (c_seq (c_blk (cr ?_))))
    replace h := bind_some h
    obtain ⟨x6, hx7, h⟩ := h
    obtain ⟨b9, o10, hi8, -⟩ := (H.ro 0 rfl).ix hx7
    refine st (v := (pt b9 o10)) (rv_ix Tryz.underlying24 ti52 rfl rfl hi8) ?_
    obtain ⟨_, ⟨_, _, rfl, rfl, ⟨_, _, rfl, ⟨_, rfl, hR15⟩, rfl⟩⟩, hl11, hc12⟩ := ((H.ro 0 rfl).at hx7 hi8).cells
    obtain ⟨a13, c14, rfl⟩ := hR15.isSl
    replace H := H.add (d := Ch.ro 0 (Sl a13 x6.2.1 c14) x6.2.1) hR15 (fun _ h => h)
    clear hR15
    refine st (v := (.agg #[(I x6.1), (Sl a13 x6.2.1 c14), (I x6.2.2)])) (rv_load Tryz.underlying52 rfl ti52 rfl hl11 hc12) (st_ex (ex_alloc (cs := [(I 0), (.slice none 0 0), (I 0)]) H hn0 ti52 rfl) wn ?_)
    rintro _ σ17 ⟨b16, rfl, H, -⟩
    refine st_exS (ex_store_box (k := 0) (cs := [(I 0), (.slice none 0 0), (I 0)]) (vs := [(I x6.1), (Sl a13 x6.2.1 c14), (I x6.2.2)]) (cs' := [(I x6.1), (Sl a13 x6.2.1 c14), (I x6.2.2)]) H (i := 0) rfl ti52 rfl rfl rfl rfl rfl (Nat.le_of_ble_eq_true rfl) (by simp [plain]) rfl) wn ?_
    rintro σ18 ⟨H, -⟩
    refine we (c_seq (c_seq ?_))
    obtain ⟨o19, hj, h'⟩ := bind_some h
    clear h
    refine c_cut (fun e a w => e = .normal ∧ ∃ (ρ : Nat → Value) (σ : St), a = fr 27 (updL ρ [(5, (pt b16 0)), (9, (Sl Au As Av)), (10, (I (As.length : Int))), (11, (I s3.2)), (23, (B o19))]) ∧ w = σ.w ∧ Hp S0 σ0 σ [Ch.ro 0 (Sl a13 x6.2.1 c14) x6.2.1, Ch.bx n0 b16 0 [(I x6.1), (Sl a13 x6.2.1 c14), (I x6.2.2)] [] [], Ch.ro 0 (Sl Au As Av) As]) ?_ ?_
    ·clear h'
     rename _ = some o19 => h
     refine rg ?_
     have hc20 := H.cells 0 rfl
     refine st (v := (.agg #[(I x6.1), (Sl a13 x6.2.1 c14), (I x6.2.2)])) (rv_load (cs := [(I x6.1), (Sl a13 x6.2.1 c14), (I x6.2.2)]) Tryz.underlying52 rfl ti52 rfl rfl hc20) ?_
     replace h := bind_some h
     obtain ⟨r21, hx22, h⟩ := h
     have hc23 := c_impl_validItem (Be := a13) (Bf := c14) hx22
     refine sc hc23 rfl hn0 (H.sel' [1, 0, 1, 2] rfl rfl : Hp S0 σ0 _ ([_] ++ _)) ?_
     rintro _ σ24 ⟨_, ⟨rfl, rfl⟩, H, -⟩
     replace H : Hp _ _ _ [_, _, _] := H
     refine st (v := (B (!r21))) (rv_not rfl) (mv (B (!r21)) rfl ?_)
     rcases Bool.eq_false_or_eq_true (!r21) with hb25 | hb25
     ·replace h := bif_t hb25 h
      refine st_skip (congrArg some hb25) (st_skip (congrArg some hb25) (st_skip (congrArg some hb25) (st_skip (congrArg some hb25) (st (v := (B true)) (rv_pick_t (congrArg B hb25) rfl) (w_end ?_)))))
      obtain rfl := si h
      exact ⟨rfl, _, σ24, fr_join ⟨rfl, rfl, rfl, rfl, rfl, trivial⟩, rfl, H.sel' [1, 0, 2] rfl rfl⟩
     ·replace h := bif_f hb25 h
      refine st_g (v := (pt b16 0)) (congrArg some hb25) (rv_fieldAddr (off := 0) (ft := 3) Tryz.underlying52 rfl ti3 rfl rfl) ?_
      have hc26 := H.cell (u := (I x6.1)) (o' := 0) 0 0 rfl rfl rfl
      refine st_g (v := (I x6.1)) (congrArg some hb25) (rv_load1 Tryz.underlying3 rfl rfl hc26) (st_g (v := (I s3.1)) (congrArg some hb25) (rv_move rfl) (st_g (v := (B (decide (x6.1 ≤ s3.1)))) (congrArg some hb25) (rv_leq (a := x6.1) (b := s3.1) rfl rfl) (st (v := (B (decide (x6.1 ≤ s3.1)))) (rv_pick_f (congrArg B hb25) rfl) (w_end ?_))))
      obtain rfl := si h
      exact ⟨rfl, _, σ24, fr_join ⟨rfl, rfl, rfl, rfl, rfl, trivial⟩, rfl, H.sel' [1, 0, 2] rfl rfl⟩
    ·clear hj
     have h := h'
     clear h' H
     rintro e a w ⟨rfl, ρ, σ27, rfl, rfl, H⟩
     refine q_then ?_
     refine cd_cond o19 rfl (fun hb28 => ?_) (fun hb28 => ?_)
     ·replace h := bif_t hb28 h
      refine cr (sa (B false) rfl (we (c_ret (q_then_r (q_blk_r (q_then_r (q_then_r (q_blk_r ?_))))))))
      obtain rfl := si h
      obtain rfl := hres _ rfl
      exact .inr (⟨_, rfl, rfl, _, σ27, fr_join ⟨rfl, trivial⟩, rfl, H.sel' [] rfl rfl⟩)
     ·replace h := bif_f hb28 h
      refine c_skip (q_then (rg (st (v := (pt b16 0)) (rv_fieldAddr (off := 0) (ft := 3) Tryz.underlying52 rfl ti3 rfl rfl) ?_)))
      have hc29 := H.cell (u := (I x6.1)) (o' := 0) 1 0 rfl rfl rfl
      refine st (v := (I x6.1)) (rv_load1 Tryz.underlying3 rfl rfl hc29) (sa (I x6.1) rfl (w_end (q_blk (q_then (rg (st (v := (I (w64 (s3.2 + 1)))) (rv_add (a := s3.2) (b := 1) rfl rfl) (mv (I (w64 (s3.2 + 1))) rfl (we ?_))))))))
      obtain rfl := si h
      exact ⟨_, rfl, _, σ27, fr_join ⟨rfl, rfl, rfl, rfl, trivial⟩, rfl, H.sel' [2] rfl rfl⟩
   ·replace h := bif_f hb5 h
    refine c_exit (q_then_x (q_then_x (q_blk_hit ?_)))
    obtain rfl := si h
    obtain rfl := hres _ rfl
    exact .inl ⟨_, rfl, rfl, _, σ4, fr_join trivial, rfl, H.sel' [] rfl rfl⟩
  ·clear hj
   have h := h'
   clear h' H
   rintro e a w (⟨t30, rfl, rfl, ρ, σ31, rfl, rfl, H⟩ | ⟨t32, rfl, rfl, ρ, σ33, rfl, rfl, H⟩)
   ·replace h := selim_l h
    refine q_then (cr (sa (B true) rfl (we (c_ret ?_))))
    obtain rfl := si h
    exact fin_ret (v := (B true)) (results_ok Tryz.results35 (res_tmp (v := (B true)) rfl res_nil) rfl) ⟨rfl, rfl⟩ (H.sel' [] rfl rfl)
   ·replace h := selim_r h
    refine q_then_r ?_
    obtain rfl := si h
    exact fin_ret (v := (B t32)) (results_ok Tryz.results35 (res_tmp (v := (B t32)) rfl res_nil) rfl) ⟨rfl, rfl⟩ (H.sel' [] rfl rfl)

theorem c_impl_validKind {Br : Int}  {r : Bool} (h : M.impl_validKind Br = some r) :
    Cal2 Tryz.prog 36 [(I Br)] [] (fun n0 v L => v = (B r) ∧ L = []) := by
 refine cal2 (n := 9) Tryz.func36 rfl rfl rfl rfl ?_
 intro S0 σ0 n0 hn0 H
 unfold M.impl_validKind at h
 refine cr (sa (B false) rfl (we (cr (mv (I Br) rfl (st (v := (B (decide (1 ≤ Br)))) (rv_geq (a := Br) (b := 1) rfl rfl) (mv (B (decide (1 ≤ Br))) rfl ?_))))))
 rcases Bool.eq_false_or_eq_true (decide (1 ≤ Br)) with hb1 | hb1
 ·replace h := bif_t hb1 h
  refine st_g (v := (I Br)) (congrArg some hb1) (rv_move rfl) (st_g (v := (B (decide (Br ≤ 4)))) (congrArg some hb1) (rv_leq (a := Br) (b := 4) rfl rfl) (st (v := (B (decide (Br ≤ 4)))) (rv_pick_t (congrArg B hb1) rfl) (sa (B (decide (Br ≤ 4))) rfl (we (c_ret ?_)))))
  obtain rfl := si h
  exact fin_ret (v := (B (decide (Br ≤ 4)))) (results_ok Tryz.results36 (res_tmp (v := (B (decide (Br ≤ 4)))) rfl res_nil) rfl) ⟨rfl, rfl⟩ (H.sel' [] rfl rfl)
 ·replace h := bif_f hb1 h
  refine st_skip (congrArg some hb1) (st_skip (congrArg some hb1) (st (v := (B false)) (rv_pick_f (congrArg B hb1) rfl) (sa (B false) rfl (we (c_ret ?_)))))
  obtain rfl := si h
  exact fin_ret (v := (B false)) (results_ok Tryz.results36 (res_tmp (v := (B false)) rfl res_nil) rfl) ⟨rfl, rfl⟩ (H.sel' [] rfl rfl)

theorem c_impl_validSearch {As : List (Int × (List Int) × Int)} {Bs : Int} {Bt : List Int} {Bu : Int} {Au : Option Addr} {Av : Nat} {Bv : Option Addr} {Bw : Nat} {r : Bool} (h : M.impl_validSearch As Bs Bt Bu = some r) :
    Cal2 Tryz.prog 18 [(Sl Au As Av), (I Bs), (Sl Bv Bt Bw), (I Bu)] [Ch.ro 0 (Sl Au As Av) As, Ch.ro 0 (Sl Bv Bt Bw) Bt] (fun n0 v L => v = (B r) ∧ L = []) := by
 refine cal2 (n := 27) Tryz.func18 rfl rfl rfl rfl ?_
 intro S0 σ0 n0 hn0 H
 unfold M.impl_validSearch at h
 refine cr (sa (B false) rfl (we (cr (mv (Sl Au As Av) rfl ?_))))
 replace h := bind_some h
 obtain ⟨r1, hx2, h⟩ := h
 have hc3 := c_impl_ValidStore (Au := Au) (Av := Av) hx2
 refine sc hc3 rfl hn0 (H.sel' [0, 0, 1] rfl rfl : Hp S0 σ0 _ ([_] ++ _)) ?_
 rintro _ σ4 ⟨_, ⟨rfl, rfl⟩, H, -⟩
 replace H : Hp _ _ _ [_, _] := H
 refine mv (B r1) rfl ?_
 rcases Bool.eq_false_or_eq_true r1 with hb5 | hb5
 ·replace h := bif_t hb5 h
  refine st_g (v := (I Bs)) (congrArg some hb5) (rv_move rfl) ?_
  replace h := bind_some h
  obtain ⟨r6, hx7, h⟩ := h
  have hc8 := c_impl_validKind hx7
  refine st_call (cx_call hc8 (ent_f hc8.fn rfl) hn0 (H.sel' [0, 1] rfl rfl : Hp S0 σ0 _ ([] ++ _))) (wanted_yes rfl (by exact (congrArg some hb5))) ?_
  rintro _ σ9 ⟨_, ⟨rfl, rfl⟩, H, -⟩
  replace H : Hp _ _ _ [_, _] := H
  refine st (v := (B r6)) (rv_pick_t (congrArg B hb5) rfl) (mv (B r6) rfl ?_)
  rcases Bool.eq_false_or_eq_true r6 with hb10 | hb10
  ·replace h := bif_t hb10 h
   refine st_g (v := (Sl Bv Bt Bw)) (congrArg some hb10) (rv_move rfl) ?_
   replace h := bind_some h
   obtain ⟨r11, hx12, h⟩ := h
   have hc13 := c_impl_ValidVector (Bb := Bv) (Bc := Bw) hx12
   refine st_call (cx_call hc13 (ent_f hc13.fn rfl) hn0 (H.sel' [1, 0, 1] rfl rfl : Hp S0 σ0 _ ([_] ++ _))) (wanted_yes rfl (by exact (congrArg some hb10))) ?_
   rintro _ σ14 ⟨_, ⟨rfl, rfl⟩, H, -⟩
   replace H : Hp _ _ _ [_, _] := H
   refine st (v := (B r11)) (rv_pick_t (congrArg B hb10) rfl) (mv (B r11) rfl ?_)
   rcases Bool.eq_false_or_eq_true r11 with hb15 | hb15
   ·replace h := bif_t hb15 h
    refine st_g (v := (I Bu)) (congrArg some hb15) (rv_move rfl) (st_g (v := (B (decide (1 ≤ Bu)))) (congrArg some hb15) (rv_geq (a := Bu) (b := 1) rfl rfl) (st (v := (B (decide (1 ≤ Bu)))) (rv_pick_t (congrArg B hb15) rfl) (mv (B (decide (1 ≤ Bu))) rfl ?_)))
    rcases Bool.eq_false_or_eq_true (decide (1 ≤ Bu)) with hb16 | hb16
    ·replace h := bif_t hb16 h
     refine st_g (v := (I Bu)) (congrArg some hb16) (rv_move rfl) (st_g (v := (B (decide (Bu ≤ 16)))) (congrArg some hb16) (rv_leq (a := Bu) (b := 16) rfl rfl) (st (v := (B (decide (Bu ≤ 16)))) (rv_pick_t (congrArg B hb16) rfl) (sa (B (decide (Bu ≤ 16))) rfl (we (c_ret ?_)))))
     obtain rfl := si h
     exact fin_ret (v := (B (decide (Bu ≤ 16)))) (results_ok Tryz.results18 (res_tmp (v := (B (decide (Bu ≤ 16)))) rfl res_nil) rfl) ⟨rfl, rfl⟩ (H.sel' [] rfl rfl)
    ·replace h := bif_f hb16 h
     refine st_skip (congrArg some hb16) (st_skip (congrArg some hb16) (st (v := (B false)) (rv_pick_f (congrArg B hb16) rfl) (sa (B false) rfl (we (c_ret ?_)))))
     obtain rfl := si h
     exact fin_ret (v := (B false)) (results_ok Tryz.results18 (res_tmp (v := (B false)) rfl res_nil) rfl) ⟨rfl, rfl⟩ (H.sel' [] rfl rfl)
   ·replace h := bif_f hb15 h
    refine st_skip (congrArg some hb15) (st_skip (congrArg some hb15) (st (v := (B false)) (rv_pick_f (congrArg B hb15) rfl) (mv (B false) rfl (st_skip rfl (st_skip rfl (st (v := (B false)) (rv_pick_f rfl rfl) (sa (B false) rfl (we (c_ret ?_)))))))))
    obtain rfl := si h
    exact fin_ret (v := (B false)) (results_ok Tryz.results18 (res_tmp (v := (B false)) rfl res_nil) rfl) ⟨rfl, rfl⟩ (H.sel' [] rfl rfl)
  ·replace h := bif_f hb10 h
   refine st_skip (congrArg some hb10) (st_skip (congrArg some hb10) (st (v := (B false)) (rv_pick_f (congrArg B hb10) rfl) (mv (B false) rfl (st_skip rfl (st_skip rfl (st (v := (B false)) (rv_pick_f rfl rfl) (mv (B false) rfl (st_skip rfl (st_skip rfl (st (v := (B false)) (rv_pick_f rfl rfl) (sa (B false) rfl ?_)))))))))))
   refine we (c_ret ?_)
   obtain rfl := si h
   exact fin_ret (v := (B false)) (results_ok Tryz.results18 (res_tmp (v := (B false)) rfl res_nil) rfl) ⟨rfl, rfl⟩ (H.sel' [] rfl rfl)
 ·replace h := bif_f hb5 h
  refine st_skip (congrArg some hb5) (st_skip (congrArg some hb5) (st (v := (B false)) (rv_pick_f (congrArg B hb5) rfl) (mv (B false) rfl (st_skip rfl (st_skip rfl (st (v := (B false)) (rv_pick_f rfl rfl) (mv (B false) rfl (st_skip rfl (st_skip rfl (st (v := (B false)) (rv_pick_f rfl rfl) (mv (B false) rfl ?_)))))))))))
  refine st_skip rfl (st_skip rfl (st (v := (B false)) (rv_pick_f rfl rfl) (sa (B false) rfl (we (c_ret ?_)))))
  obtain rfl := si h
  exact fin_ret (v := (B false)) (results_ok Tryz.results18 (res_tmp (v := (B false)) rfl res_nil) rfl) ⟨rfl, rfl⟩ (H.sel' [] rfl rfl)

theorem c_impl_hitHeap_Push__impl_Hit {By : List (Int × Int)} {Bg : Int × Int} {Bz : Option Addr} {Ca : Nat} {Cb Cc Cd : Nat} {Ce Cf : List Value} {r : (List (Int × Int))} (h : M.impl_hitHeap_Push__impl_Hit By Bg = some r) :
    Cal2 Tryz.prog 126 [(pt Cc Cd), (.iface 35 (.agg #[(I Bg.1), (I Bg.2)]))] [Ch.bx Cb Cc Cd [(Sl Bz By Ca)] Ce Cf, Ch.own 0 0 (Sl Bz By Ca) By] (fun n0 v L => ∃ (az1 : Option Addr), ∃ (cz2 : Nat), v = (.tuple #[]) ∧ L = [Ch.bx Cb Cc Cd [(Sl az1 r cz2)] Ce Cf, Ch.own 0 0 (Sl az1 r cz2) r]) := by
 refine cal2 (n := 13) Tryz.func126 rfl rfl rfl rfl ?_
 intro S0 σ0 n0 hn0 H
 unfold M.impl_hitHeap_Push__impl_Hit at h
 have hc1 := H.cell (u := (Sl Bz By Ca)) (o' := Cd) 0 0 rfl rfl rfl
 replace h := bind_some h
 obtain ⟨xs3, hx4, h⟩ := h
 have Hs := H
 refine rg2 (σ := σ0) (Nm := (Nat) × (Option Addr) × (Nat)) 8 [6, 7] [[false, false], [true, false], [true, true]] [[(0, 0), (1, 1), (2, 2)], [(0, 0), (1, 1)], [(0, 0), (1, 1)], [(0, 0), (1, 1)], [(0, 0)], [(0, 0)], [(0, 1)], [(1, 2)]] 2 [fun ((b2, a5, c6) : (Nat) × (Option Addr) × (Nat)) => fun σm => Hp S0 σ0 σm [Ch.bx Cb Cc Cd [(Sl Bz By Ca)] Ce Cf, Ch.own 0 0 (Sl Bz By Ca) By] ∧ Md (cov []) σ0 σm, fun ((b2, a5, c6) : (Nat) × (Option Addr) × (Nat)) => fun σm => Hp S0 σ0 σm [Ch.own n0 n0 (Sl (some ⟨b2, 0, none⟩) ([(Bg.1, Bg.2)] : List (Int × Int)) 1) ([(Bg.1, Bg.2)] : List (Int × Int)), Ch.bx Cb Cc Cd [(Sl Bz By Ca)] Ce Cf, Ch.own 0 0 (Sl Bz By Ca) By] ∧ Md (cov []) σ0 σm, fun ((b2, a5, c6) : (Nat) × (Option Addr) × (Nat)) => fun σm => Hp S0 σ0 σm [Ch.own 0 0 (Sl a5 xs3 c6) xs3, Ch.own n0 n0 (Sl (some ⟨b2, 0, none⟩) ([(Bg.1, Bg.2)] : List (Int × Int)) 1) ([(Bg.1, Bg.2)] : List (Int × Int)), Ch.bx Cb Cc Cd [(Sl Bz By Ca)] Ce Cf] ∧ Md (fun i => (cov []) i ∨ (fun b => blk (Sl Bz By Ca) = some b) i) σ0 σm] [fun ((b2, a5, c6) : (Nat) × (Option Addr) × (Nat)) => (pt Cc Cd), fun ((b2, a5, c6) : (Nat) × (Option Addr) × (Nat)) => (pt Cc Cd), fun ((b2, a5, c6) : (Nat) × (Option Addr) × (Nat)) => (pt Cc Cd), fun ((b2, a5, c6) : (Nat) × (Option Addr) × (Nat)) => (Sl Bz By Ca), fun ((b2, a5, c6) : (Nat) × (Option Addr) × (Nat)) => (.iface 35 (.agg #[(I Bg.1), (I Bg.2)])), fun ((b2, a5, c6) : (Nat) × (Option Addr) × (Nat)) => (.agg #[(I Bg.1), (I Bg.2)]), fun ((b2, a5, c6) : (Nat) × (Option Addr) × (Nat)) => (Sl (some ⟨b2, 0, none⟩) ([(Bg.1, Bg.2)] : List (Int × Int)) 1), fun ((b2, a5, c6) : (Nat) × (Option Addr) × (Nat)) => (Sl a5 xs3 c6)] (0, none, 0) (by kernel_rfl) (by kernel_rfl) ?_ ?_ ?_
 ·intro σm m0
  exact ⟨H.grow (m0.mono fun _ h => h.elim), m0⟩
 ·refine ac rfl (by
    intro k; rintro ⟨b2, a5, c6⟩ ρ σm hJ hoff hdep
    have e0 := look_off (N := 13) (hoff 0 rfl) rfl
    exact dp_v (v := (pt Cc Cd)) wn (rv_move e0) rfl hJ) ?_
  refine ac rfl (by
    intro k; rintro ⟨b2, a5, c6⟩ ρ σm hJ hoff hdep
    have e0 := look_off (N := 13) (hoff 0 rfl) rfl
    exact dp_v (v := (pt Cc Cd)) wn (rv_move e0) rfl hJ) ?_
  refine ac rfl (by
    intro k; rintro ⟨b2, a5, c6⟩ ρ σm hJ hoff hdep
    have e5 := hdep 1 rfl rfl 5 rfl
    exact dp_v (v := (pt Cc Cd)) wn (rv_nilCheck e5) rfl hJ) ?_
  refine all_cons (by
    refine ⟨?_, ?_⟩
    ·rintro ⟨b2, a5, c6⟩ ρ σm hJ hoff hdep
     have e6 := hdep 2 rfl rfl 6 rfl
     obtain ⟨H, m⟩ := id hJ
     have hc1 := H.cell (u := (Sl Bz By Ca)) (o' := Cd) 0 0 rfl rfl rfl
     exact dp_v (v := (Sl Bz By Ca)) wn (rv_load1 Tryz.underlying62 rfl e6 hc1) rfl hJ
    refine ⟨?_, ?_⟩
    ·rintro ⟨b2, a5, c6⟩ ρ σm hJ hoff hdep
     have e6 := hdep 2 rfl rfl 6 rfl
     obtain ⟨H, m⟩ := id hJ
     have hc1 := H.cell (u := (Sl Bz By Ca)) (o' := Cd) 1 0 rfl rfl rfl
     exact dp_v (v := (Sl Bz By Ca)) wn (rv_load1 Tryz.underlying62 rfl e6 hc1) rfl hJ
    trivial) ?_
  refine ac rfl (by
    intro k; rintro ⟨b2, a5, c6⟩ ρ σm hJ hoff hdep
    have e1 := look_off (N := 13) (hoff 1 rfl) rfl
    exact dp_v (v := (.iface 35 (.agg #[(I Bg.1), (I Bg.2)]))) wn (rv_move e1) rfl hJ) ?_
  refine ac rfl (by
    intro k; rintro ⟨b2, a5, c6⟩ ρ σm hJ hoff hdep
    have e8 := hdep 4 rfl rfl 8 rfl
    exact dp_v (v := (.agg #[(I Bg.1), (I Bg.2)])) wn (rv_typeAssert Tryz.underlying35 rfl e8) rfl hJ) ?_
  refine all_cons (by
    refine ⟨?_, ?_⟩
    ·rintro ⟨b2, a5, c6⟩ ρ σm hJ hoff hdep
     have e9 : look 13 ρ 9 = (.agg #[(I Bg.1), (I Bg.2)]) := hdep 5 rfl rfl 9 rfl
     obtain ⟨H, m⟩ := id hJ
     refine dp_ex wn (ex_buildSlice (el := n0) (xs := ([(Bg.1, Bg.2)] : List (Int × Int))) (ps := [(0, (.agg #[(I Bg.1), (I Bg.2)]))]) (cs := [(I Bg.1), (I Bg.2)]) H hn0 Tryz.underlying62 ti35 rfl (by show [(0, look 13 ρ 9)] = _; rw [e9]) (by kernel_rfl) (.cons (c := [(I Bg.1), (I Bg.2)]) ⟨[(I Bg.1)], [(I Bg.2)], rfl, rfl, rfl⟩ (.nil)) rfl) ?_
     rintro _ σq ⟨b2x, rfl, H2, m2⟩
     exact ⟨_, (b2x, a5, c6), rfl, rfl, ⟨H2.sel' [0, 1, 2] rfl rfl, m.comp0 m2⟩, stab [0, 1, 2, 3, 4, 5] (by kernel_rfl) ⟨rfl, rfl, rfl, rfl, rfl, rfl, trivial⟩⟩
    trivial) ?_
  refine all_cons (by
    refine ⟨?_, ?_⟩
    ·rintro ⟨b2, a5, c6⟩ ρ σm hJ hoff hdep
     have e7 := hdep 3 rfl rfl 7 rfl
     have e10 := hdep 6 rfl rfl 10 rfl
     obtain ⟨H, m⟩ := id hJ
     refine dp_ex wn (ex_append H (i := 2) rfl Tryz.underlying62 Tryz.underlying62 ti35 rfl rfl (by decide) ((H.own 0 rfl).rd.sc) hx4 (Nat.zero_le _) e7 e10) ?_
     rintro _ σq ⟨a5x, c6x, rfl, H2, m2⟩
     exact ⟨_, (b2, a5x, c6x), rfl, rfl, ⟨H2.sel' [0, 1, 2] rfl rfl, m.comp m2⟩, stab [0, 1, 2, 3, 4, 5, 6] (by kernel_rfl) ⟨rfl, rfl, rfl, rfl, rfl, rfl, rfl, trivial⟩⟩
    trivial) ?_
  exact all_nil
 ·rintro ⟨b2, a5, c6⟩ ρ σ7 hJ hoff hrel
  have e0 := look_off (N := 13) (hoff 0 rfl) rfl
  have e4 := hrel 0 rfl 4 rfl
  have e11 := hrel 7 rfl 11 rfl
  obtain ⟨H, -⟩ := (show Hp S0 σ0 σ7 [Ch.own 0 0 (Sl a5 xs3 c6) xs3, Ch.own n0 n0 (Sl (some ⟨b2, 0, none⟩) ([(Bg.1, Bg.2)] : List (Int × Int)) 1) ([(Bg.1, Bg.2)] : List (Int × Int)), Ch.bx Cb Cc Cd [(Sl Bz By Ca)] Ce Cf] ∧ Md (fun i => (cov []) i ∨ (fun b => blk (Sl Bz By Ca) = some b) i) σ0 σ7 from hJ)
  clear hJ Hs
  rw [fr_lookL (L := [(0, (pt Cc Cd)), (4, (pt Cc Cd)), (11, (Sl a5 xs3 c6))]) ⟨e0, e4, e11, trivial⟩]
  clear hoff hrel e0 e4 e11
  refine st (v := (pt Cc Cd)) (rv_nilCheck rfl) ?_
  refine st_exS (ex_store_box (k := 0) (cs := [(Sl Bz By Ca)]) (vs := [(Sl a5 xs3 c6)]) (cs' := [(Sl a5 xs3 c6)]) H (i := 2) rfl ti62 rfl rfl rfl rfl rfl (Nat.le_of_ble_eq_true rfl) (by simp [plain]) rfl) wn ?_
  rintro σ8 ⟨H, -⟩
  refine w_end ?_
  obtain rfl := si h
  exact fin_end (v := (.tuple #[])) (results_ok Tryz.results126 res_nil rfl) ⟨a5, c6, rfl, rfl⟩ (H.sel' [0, 1] rfl rfl)

theorem c_impl_hitHeap_Len {By : List (Int × Int)} {Bz : Option Addr} {Ca : Nat} {r : Int} (h : M.impl_hitHeap_Len By = some r) :
    Cal2 Tryz.prog 121 [(Sl Bz By Ca)] [Ch.ro 0 (Sl Bz By Ca) By] (fun n0 v L => v = (I r) ∧ L = []) := by
 refine cal2 (n := 5) Tryz.func121 rfl rfl rfl rfl ?_
 intro S0 σ0 n0 hn0 H
 unfold M.impl_hitHeap_Len at h
 refine cr (sa (I 0) rfl (we (cr (mv (Sl Bz By Ca) rfl (st (v := (I (By.length : Int))) (rv_len Tryz.underlying62 rfl) (sa (I (By.length : Int)) rfl (we ?_)))))))
 refine c_ret ?_
 obtain rfl := si h
 exact fin_ret (v := (I (By.length : Int))) (results_ok Tryz.results121 (res_tmp (v := (I (By.length : Int))) rfl res_nil) rfl) ⟨rfl, rfl⟩ (H.sel' [] rfl rfl)

theorem c_cmp_isNaN_int {Bd : Int}  {r : Bool} (h : M.cmp_isNaN_int Bd = some r) :
    Cal2 Tryz.prog 80 [(I Bd)] [] (fun n0 v L => v = (B r) ∧ L = []) := by
 refine cal2 (n := 6) Tryz.func80 rfl rfl rfl rfl ?_
 intro S0 σ0 n0 hn0 H
 unfold M.cmp_isNaN_int at h
 refine cr (sa (B false) rfl (we (cr (mv (I Bd) rfl (mv (I Bd) rfl (st (v := (B (Bd != Bd))) (rv_neq (a := Bd) (b := Bd) rfl rfl) (sa (B (Bd != Bd)) rfl (w_end ?_))))))))
 refine q_then (c_ret ?_)
 obtain rfl := si h
 exact fin_ret (v := (B (Bd != Bd))) (results_ok Tryz.results80 (res_tmp (v := (B (Bd != Bd))) rfl res_nil) rfl) ⟨rfl, rfl⟩ (H.sel' [] rfl rfl)

theorem c_cmp_Compare_int {Bd : Int} {Cg : Int}  {r : Int} (h : M.cmp_Compare_int Bd Cg = some r) :
    Cal2 Tryz.prog 61 [(I Bd), (I Cg)] [] (fun n0 v L => v = (I r) ∧ L = []) := by
 refine cal2 (n := 20) Tryz.func61 rfl rfl rfl rfl ?_
 intro S0 σ0 n0 hn0 H
 unfold M.cmp_Compare_int at h
 refine cr (sa (I 0) rfl (we (cr (mv (I Bd) rfl ?_))))
 replace h := bind_some h
 obtain ⟨r1, hx2, h⟩ := h
 have hc3 := c_cmp_isNaN_int hx2
 refine sc hc3 rfl hn0 (H.sel' [] rfl rfl : Hp S0 σ0 _ ([] ++ _)) ?_
 rintro _ σ4 ⟨_, ⟨rfl, rfl⟩, H, -⟩
 replace H : Hp _ _ _ [] := H
 refine sa (B r1) rfl (we (cr (mv (I Cg) rfl ?_)))
 replace h := bind_some h
 obtain ⟨r5, hx6, h⟩ := h
 have hc7 := c_cmp_isNaN_int hx6
 refine sc hc7 rfl hn0 (H.sel' [] rfl rfl : Hp S0 σ0 _ ([] ++ _)) ?_
 rintro _ σ8 ⟨_, ⟨rfl, rfl⟩, H, -⟩
 replace H : Hp _ _ _ [] := H
 refine sa (B r5) rfl (we (c_seq (cr (mv (B r1) rfl (we ?_)))))
 refine cd_cond r1 rfl (fun hb9 => ?_) (fun hb9 => ?_)
 ·replace h := bif_t hb9 h
  refine c_seq (cr (mv (B r5) rfl (we ?_)))
  refine cd_cond r5 rfl (fun hb10 => ?_) (fun hb10 => ?_)
  ·replace h := bif_t hb10 h
   refine cr (sa (I 0) rfl (we (c_ret (q_then_r (q_then_r ?_)))))
   obtain rfl := si h
   exact fin_ret (v := (I 0)) (results_ok Tryz.results61 (res_tmp (v := (I 0)) rfl res_nil) rfl) ⟨rfl, rfl⟩ (H.sel' [] rfl rfl)
  ·replace h := bif_f hb10 h
   refine c_skip (q_then (cr (sa (I (-1)) rfl (we (c_ret (q_then_r ?_))))))
   obtain rfl := si h
   exact fin_ret (v := (I (-1))) (results_ok Tryz.results61 (res_tmp (v := (I (-1))) rfl res_nil) rfl) ⟨rfl, rfl⟩ (H.sel' [] rfl rfl)
 ·replace h := bif_f hb9 h
  refine c_skip (q_then (c_seq (cr (mv (B r5) rfl (we ?_)))))
  refine cd_cond r5 rfl (fun hb11 => ?_) (fun hb11 => ?_)
  ·replace h := bif_t hb11 h
   refine cr (sa (I 1) rfl (we (c_ret (q_then_r ?_))))
   obtain rfl := si h
   exact fin_ret (v := (I 1)) (results_ok Tryz.results61 (res_tmp (v := (I 1)) rfl res_nil) rfl) ⟨rfl, rfl⟩ (H.sel' [] rfl rfl)
  ·replace h := bif_f hb11 h
   refine c_skip (q_then (c_seq (cr (mv (I Bd) rfl (mv (I Cg) rfl (st (v := (B (decide (Bd < Cg)))) (rv_lss (a := Bd) (b := Cg) rfl rfl) (we ?_)))))))
   refine cd_cond (decide (Bd < Cg)) rfl (fun hb12 => ?_) (fun hb12 => ?_)
   ·replace h := bif_t hb12 h
    refine cr (sa (I (-1)) rfl (we (c_ret (q_then_r ?_))))
    obtain rfl := si h
    exact fin_ret (v := (I (-1))) (results_ok Tryz.results61 (res_tmp (v := (I (-1))) rfl res_nil) rfl) ⟨rfl, rfl⟩ (H.sel' [] rfl rfl)
   ·replace h := bif_f hb12 h
    refine c_skip (q_then (c_seq (cr (mv (I Bd) rfl (mv (I Cg) rfl (st (v := (B (decide (Cg < Bd)))) (rv_gtr (a := Bd) (b := Cg) rfl rfl) (we ?_)))))))
    refine cd_cond (decide (Cg < Bd)) rfl (fun hb13 => ?_) (fun hb13 => ?_)
    ·replace h := bif_t hb13 h
     refine cr (sa (I 1) rfl (we (c_ret (q_then_r ?_))))
     obtain rfl := si h
     exact fin_ret (v := (I 1)) (results_ok Tryz.results61 (res_tmp (v := (I 1)) rfl res_nil) rfl) ⟨rfl, rfl⟩ (H.sel' [] rfl rfl)
    ·replace h := bif_f hb13 h
     refine c_skip (q_then (cr (sa (I 0) rfl (we (c_ret ?_)))))
     obtain rfl := si h
     exact fin_ret (v := (I 0)) (results_ok Tryz.results61 (res_tmp (v := (I 0)) rfl res_nil) rfl) ⟨rfl, rfl⟩ (H.sel' [] rfl rfl)

theorem c_cmp_Or_int {Ci : List Int} {Cj : Option Addr} {Ck : Nat} {r : Int} (h : M.cmp_Or_int Ci = some r) :
    Cal2 Tryz.prog 76 [(Sl Cj Ci Ck)] [Ch.ro 0 (Sl Cj Ci Ck) Ci] (fun n0 v L => v = (I r) ∧ L = []) := by
 refine cal2 (n := 18) Tryz.func76 rfl rfl rfl rfl ?_
 intro S0 σ0 n0 hn0 H
 unfold M.cmp_Or_int at h
 refine cr (sa (I 0) rfl (we (cr (sa (I 0) rfl (we (c_seq (c_seq ?_)))))))
 refine rg (mv (Sl Cj Ci Ck) rfl (st (v := (I (Ci.length : Int))) (rv_len Tryz.underlying25 rfl) (mv (I 0) rfl (we ?_))))
 obtain ⟨o1, hj, h'⟩ := bind_some h
 clear h
 refine c_cut (fun e a w => (∃ t, o1 = (.inl t) ∧ e = .normal ∧ ∃ (ρ : Nat → Value) (σ : St), a = fr 18 (updL ρ [(3, (I 0))]) ∧ w = σ.w ∧ Hp S0 σ0 σ []) ∨ (∃ t, o1 = (.inr t) ∧ e = .ret ∧ ∃ (ρ : Nat → Value) (σ : St), a = fr 18 (updL ρ [(2, (I t))]) ∧ w = σ.w ∧ Hp S0 σ0 σ [])) ?_ ?_
 ·clear h'
  rename _ = some o1 => h
  refine c_blk (wp_loopM _ h (fun s2 a w => ∃ (ρ : Nat → Value) (σ : St), a = fr 18 (updL ρ [(3, (I 0)), (6, (Sl Cj Ci Ck)), (7, (I (Ci.length : Int))), (8, (I s2))]) ∧ w = σ.w ∧ Hp S0 σ0 σ [Ch.ro 0 (Sl Cj Ci Ck) Ci]) ⟨_, σ0, fr_join ⟨rfl, rfl, rfl, rfl, trivial⟩, rfl, H.sel' [0] rfl rfl⟩ ?_)
  clear h H
  rintro s2 a w o ⟨ρ, σ3, rfl, rfl, H⟩ h hres
  refine cr (st (v := (B (decide (s2 < (Ci.length : Int))))) (rv_lss (a := s2) (b := (Ci.length : Int)) rfl rfl) (we (c_seq ?_)))
  refine cd_cond (decide (s2 < (Ci.length : Int))) rfl (fun hb4 => ?_) (fun hb4 => ?_)
  ·replace h := bif_t hb4 h
   refine c_skip (q_then (c_seq (c_blk (cr ?_))))
   replace h := bind_some h
   obtain ⟨x5, hx6, h⟩ := h
   obtain ⟨b8, o9, hi7, -⟩ := (H.ro 0 rfl).ix hx6
   refine st (v := (pt b8 o9)) (rv_ix Tryz.underlying25 ti3 rfl rfl hi7) ?_
   have hc10 := ((H.ro 0 rfl).at hx6 hi7).int
   refine st (v := (I x5)) (rv_load1 Tryz.underlying3 rfl rfl hc10) (sa (I x5) rfl (we (cr (mv (I x5) rfl (mv (I 0) rfl (st (v := (B (x5 != 0))) (rv_neq (a := x5) (b := 0) rfl rfl) (we ?_)))))))
   refine cd_cond (x5 != 0) rfl (fun hb11 => ?_) (fun hb11 => ?_)
   ·replace h := bif_t hb11 h
    refine cr (mv (I x5) rfl (sa (I x5) rfl (we (c_ret (q_blk_r (q_then_r (q_then_r (q_blk_r ?_))))))))
    obtain rfl := si h
    obtain rfl := hres _ rfl
    exact .inr (⟨_, rfl, rfl, _, σ3, fr_join ⟨rfl, trivial⟩, rfl, H.sel' [] rfl rfl⟩)
   ·replace h := bif_f hb11 h
    refine c_skip (q_blk (q_then (rg (st (v := (I (w64 (s2 + 1)))) (rv_add (a := s2) (b := 1) rfl rfl) (mv (I (w64 (s2 + 1))) rfl (we ?_))))))
    obtain rfl := si h
    exact ⟨_, rfl, _, σ3, fr_join ⟨rfl, rfl, rfl, rfl, trivial⟩, rfl, H.sel' [0] rfl rfl⟩
  ·replace h := bif_f hb4 h
   refine c_exit (q_then_x (q_then_x (q_blk_hit ?_)))
   obtain rfl := si h
   obtain rfl := hres _ rfl
   exact .inl ⟨_, rfl, rfl, _, σ3, fr_join ⟨rfl, trivial⟩, rfl, H.sel' [] rfl rfl⟩
 ·clear hj
  have h := h'
  clear h' H
  rintro e a w (⟨t12, rfl, rfl, ρ, σ13, rfl, rfl, H⟩ | ⟨t14, rfl, rfl, ρ, σ15, rfl, rfl, H⟩)
  ·replace h := selim_l h
   refine q_then (cr (mv (I 0) rfl (sa (I 0) rfl (we (c_ret ?_)))))
   obtain rfl := si h
   exact fin_ret (v := (I 0)) (results_ok Tryz.results76 (res_tmp (v := (I 0)) rfl res_nil) rfl) ⟨rfl, rfl⟩ (H.sel' [] rfl rfl)
  ·replace h := selim_r h
   refine q_then_r ?_
   obtain rfl := si h
   exact fin_ret (v := (I t14)) (results_ok Tryz.results76 (res_tmp (v := (I t14)) rfl res_nil) rfl) ⟨rfl, rfl⟩ (H.sel' [] rfl rfl)

theorem c_impl_compareHits {Cl : Int × Int} {Cm : Int × Int}  {r : Int} (h : M.impl_compareHits Cl Cm = some r) :
    Cal2 Tryz.prog 57 [(.agg #[(I Cl.1), (I Cl.2)]), (.agg #[(I Cm.1), (I Cm.2)])] [] (fun n0 v L => v = (I r) ∧ L = []) := by
 refine cal2 (n := 17) Tryz.func57 rfl rfl rfl rfl ?_
 intro S0 σ0 n0 hn0 H
 unfold M.impl_compareHits at h
 refine cr (st_ex (ex_box (cs := [(I Cl.1), (I Cl.2)]) H hn0 rfl rfl) wn ?_)
 rintro _ σ2 ⟨b1, rfl, H, -⟩
 refine st_ex (ex_box (cs := [(I Cm.1), (I Cm.2)]) H hn0 rfl rfl) wn ?_
 rintro _ σ4 ⟨b3, rfl, H, -⟩
 refine sa (I 0) rfl (we (c_seq ?_))
 have hc5 := H.cell (u := (I Cl.2)) (o' := 1) 1 1 rfl rfl rfl
 have hc6 := H.cell (u := (I Cm.2)) (o' := 1) 0 1 rfl rfl rfl
 replace h := bind_some h
 obtain ⟨r7, hx8, h⟩ := h
 have hc9 := c_cmp_Compare_int hx8
 have hc10 := H.cell (u := (I Cl.1)) (o' := 0) 1 0 rfl rfl rfl
 have hc11 := H.cell (u := (I Cm.1)) (o' := 0) 0 0 rfl rfl rfl
 have Hs := H
 refine rg2 (σ := σ4) (Nm := Unit) 9 [4] [[false], [true]] [[(0, 0)], [(0, 0)], [(0, 0)], [(0, 0)], [(0, 1)], [(0, 0), (1, 1)], [(0, 0), (1, 1)], [(0, 0), (1, 1)], [(0, 0), (1, 1)]] 1 [fun _ => fun σm => Hp S0 σ0 σm [Ch.bx n0 b3 0 [(I Cm.1), (I Cm.2)] [] [], Ch.bx n0 b1 0 [(I Cl.1), (I Cl.2)] [] []] ∧ Md (cov []) σ4 σm, fun _ => fun σm => Hp S0 σ0 σm [Ch.bx n0 b3 0 [(I Cm.1), (I Cm.2)] [] [], Ch.bx n0 b1 0 [(I Cl.1), (I Cl.2)] [] []] ∧ Md (cov []) σ4 σm] [fun _ => (pt b1 1), fun _ => (I Cl.2), fun _ => (pt b3 1), fun _ => (I Cm.2), fun _ => (I r7), fun _ => (pt b1 0), fun _ => (I Cl.1), fun _ => (pt b3 0), fun _ => (I Cm.1)] () (by kernel_rfl) (by kernel_rfl) ?_ ?_ ?_
 ·intro σm m0
  exact ⟨H.grow (m0.mono fun _ h => h.elim), m0⟩
 ·refine ac rfl (fun _ _ _ _ J o f => dp_v (v := (pt b1 1)) wn (rv_fieldAddr (off := 1) (ft := 3) Tryz.underlying35 rfl ti3 rfl (look_off (o 2 rfl) rfl)) rfl J) ?_
  refine all_cons (by
    refine ⟨?_, ?_⟩
    ·intro _nm ρ σm hJ hoff hdep
     have e5 := hdep 0 rfl rfl 5 rfl
     obtain ⟨H, m⟩ := id hJ
     have hc5 := H.cell (u := (I Cl.2)) (o' := 1) 1 1 rfl rfl rfl
     exact dp_v (v := (I Cl.2)) wn (rv_load1 Tryz.underlying3 rfl e5 hc5) rfl hJ
    trivial) ?_
  refine ac rfl (fun _ _ _ _ J o f => dp_v (v := (pt b3 1)) wn (rv_fieldAddr (off := 1) (ft := 3) Tryz.underlying35 rfl ti3 rfl (look_off (o 3 rfl) rfl)) rfl J) ?_
  refine all_cons (by
    refine ⟨?_, ?_⟩
    ·intro _nm ρ σm hJ hoff hdep
     have e7 := hdep 2 rfl rfl 7 rfl
     obtain ⟨H, m⟩ := id hJ
     have hc6 := H.cell (u := (I Cm.2)) (o' := 1) 0 1 rfl rfl rfl
     exact dp_v (v := (I Cm.2)) wn (rv_load1 Tryz.underlying3 rfl e7 hc6) rfl hJ
    trivial) ?_
  refine all_cons (by
    refine ⟨?_, ?_⟩
    ·intro _nm ρ σm hJ hoff hdep
     have e6 : look 17 ρ 6 = (I Cl.2) := hdep 1 rfl rfl 6 rfl
     have e8 : look 17 ρ 8 = (I Cm.2) := hdep 3 rfl rfl 8 rfl
     obtain ⟨H, m⟩ := id hJ
     refine dp_cx wn (cx_call hc9 (ent_f hc9.fn (by show [look 17 ρ 6, look 17 ρ 8] = _; rw [e6, e8])) hn0 (H.sel' [0, 1] rfl rfl : Hp S0 σ0 _ ([] ++ _))) ?_
     rintro _ σq ⟨_, ⟨rfl, rfl⟩, H2, m2⟩
     exact ⟨_, (), rfl, rfl, ⟨H2.sel' [0, 1] rfl rfl, m.comp0 m2⟩, stab [0, 1, 2, 3, 5, 6, 7, 8] (by kernel_rfl) ⟨rfl, rfl, rfl, rfl, rfl, rfl, rfl, rfl, trivial⟩⟩
    trivial) ?_
  refine ac rfl (fun _ _ _ _ J o f => dp_v (v := (pt b1 0)) wn (rv_fieldAddr (off := 0) (ft := 3) Tryz.underlying35 rfl ti3 rfl (look_off (o 2 rfl) rfl)) rfl J) ?_
  refine all_cons (by
    refine ⟨?_, ?_⟩
    ·intro _nm ρ σm hJ hoff hdep
     have e10 := hdep 5 rfl rfl 10 rfl
     obtain ⟨H, m⟩ := id hJ
     have hc10 := H.cell (u := (I Cl.1)) (o' := 0) 1 0 rfl rfl rfl
     exact dp_v (v := (I Cl.1)) wn (rv_load1 Tryz.underlying3 rfl e10 hc10) rfl hJ
    refine ⟨?_, ?_⟩
    ·intro _nm ρ σm hJ hoff hdep
     have e10 := hdep 5 rfl rfl 10 rfl
     obtain ⟨H, m⟩ := id hJ
     have hc10 := H.cell (u := (I Cl.1)) (o' := 0) 1 0 rfl rfl rfl
     exact dp_v (v := (I Cl.1)) wn (rv_load1 Tryz.underlying3 rfl e10 hc10) rfl hJ
    trivial) ?_
  refine ac rfl (fun _ _ _ _ J o f => dp_v (v := (pt b3 0)) wn (rv_fieldAddr (off := 0) (ft := 3) Tryz.underlying35 rfl ti3 rfl (look_off (o 3 rfl) rfl)) rfl J) ?_
  refine all_cons (by
    refine ⟨?_, ?_⟩
    ·intro _nm ρ σm hJ hoff hdep
     have e12 := hdep 7 rfl rfl 12 rfl
     obtain ⟨H, m⟩ := id hJ
     have hc11 := H.cell (u := (I Cm.1)) (o' := 0) 0 0 rfl rfl rfl
     exact dp_v (v := (I Cm.1)) wn (rv_load1 Tryz.underlying3 rfl e12 hc11) rfl hJ
    refine ⟨?_, ?_⟩
    ·intro _nm ρ σm hJ hoff hdep
     have e12 := hdep 7 rfl rfl 12 rfl
     obtain ⟨H, m⟩ := id hJ
     have hc11 := H.cell (u := (I Cm.1)) (o' := 0) 0 0 rfl rfl rfl
     exact dp_v (v := (I Cm.1)) wn (rv_load1 Tryz.underlying3 rfl e12 hc11) rfl hJ
    trivial) ?_
  exact all_nil
 ·intro _nm ρ σ12 hJ hoff hrel
  obtain ⟨H, -⟩ := (show Hp S0 σ0 σ12 [Ch.bx n0 b3 0 [(I Cm.1), (I Cm.2)] [] [], Ch.bx n0 b1 0 [(I Cl.1), (I Cl.2)] [] []] ∧ Md (cov []) σ4 σ12 from hJ)
  clear hJ Hs
  rw [fr_lookL (L := [(9, (I r7)), (11, (I Cl.1)), (13, (I Cm.1))]) ⟨hrel 4 rfl 9 rfl, hrel 6 rfl 11 rfl, hrel 8 rfl 13 rfl, trivial⟩]
  clear hoff hrel
  replace h := bind_some h
  obtain ⟨r13, hx14, h⟩ := h
  have hc15 := c_cmp_Compare_int hx14
  refine sc hc15 rfl hn0 (H.sel' [0, 1] rfl rfl : Hp S0 σ0 _ ([] ++ _)) ?_
  rintro _ σ16 ⟨_, ⟨rfl, rfl⟩, H, -⟩
  replace H : Hp _ _ _ [_, _] := H
  refine st_ex (ex_buildSlice (el := n0) (xs := ([r7, r13] : List Int)) (ps := [(0, (I r7)), (1, (I r13))]) (cs := [(I r7), (I r13)]) H hn0 Tryz.underlying25 ti3 rfl rfl (by kernel_rfl) (.cons (c := [(I r7)]) rfl (.cons (c := [(I r13)]) rfl (.nil))) rfl) wn ?_
  rintro _ σ18 ⟨b17, rfl, H, -⟩
  obtain ⟨σ19, hw20, H, -⟩ := H.pub 0 rfl (Nat.le_refl _)
  rw [← hw20]; clear hw20
  replace H := H.roLow 0 0 rfl (Nat.zero_le _)
  replace h := bind_some h
  obtain ⟨r21, hx22, h⟩ := h
  have hc23 := c_cmp_Or_int (Cj := (some ⟨b17, 0, none⟩)) (Ck := 2) hx22
  refine sc hc23 rfl hn0 (H.sel' [0, 0, 1, 2, 3] rfl rfl : Hp S0 σ0 _ ([_] ++ _)) ?_
  rintro _ σ24 ⟨_, ⟨rfl, rfl⟩, H, -⟩
  replace H : Hp _ _ _ [_, _, _, _] := H
  refine sa (I r21) rfl (we (c_ret ?_))
  obtain rfl := si h
  exact fin_ret (v := (I r21)) (results_ok Tryz.results57 (res_tmp (v := (I r21)) rfl res_nil) rfl) ⟨rfl, rfl⟩ (H.sel' [] rfl rfl)

theorem c_impl_hitHeap_Less {By : List (Int × Int)} {Cn : Int} {Cp : Int} {Bz : Option Addr} {Ca : Nat} {r : Bool} (h : M.impl_hitHeap_Less By Cn Cp = some r) :
    Cal2 Tryz.prog 122 [(Sl Bz By Ca), (I Cn), (I Cp)] [Ch.ro 0 (Sl Bz By Ca) By] (fun n0 v L => v = (B r) ∧ L = []) := by
 refine cal2 (n := 17) Tryz.func122 rfl rfl rfl rfl ?_
 intro S0 σ0 n0 hn0 H
 unfold M.impl_hitHeap_Less at h
 refine cr (sa (B false) rfl (we (c_seq ?_)))
 refine rgP (σ := σ0) 8 (by kernel_rfl) (by kernel_rfl) (by kernel_rfl) ?_
 refine sq (v := (Sl Bz By Ca)) (rv_move rfl) (sq (v := (I Cn)) (rv_move rfl) ?_)
 replace h := bind_some h
 obtain ⟨x1, hx2, h⟩ := h
 obtain ⟨b4, o5, hi3, -⟩ := (H.ro 0 rfl).ix hx2
 refine sq (v := (pt b4 o5)) (rv_ix Tryz.underlying62 ti35 rfl rfl hi3) ?_
 obtain ⟨_, ⟨_, _, rfl, rfl, rfl⟩, hl6, hc7⟩ := ((H.ro 0 rfl).at hx2 hi3).cells
 refine sq (v := (.agg #[(I x1.1), (I x1.2)])) (rv_load Tryz.underlying35 rfl ti35 rfl hl6 hc7) (sq (v := (Sl Bz By Ca)) (rv_move rfl) (sq (v := (I Cp)) (rv_move rfl) ?_))
 replace h := bind_some h
 obtain ⟨x8, hx9, h⟩ := h
 obtain ⟨b11, o12, hi10, -⟩ := (H.ro 0 rfl).ix hx9
 refine sq (v := (pt b11 o12)) (rv_ix Tryz.underlying62 ti35 rfl rfl hi10) ?_
 obtain ⟨_, ⟨_, _, rfl, rfl, rfl⟩, hl13, hc14⟩ := ((H.ro 0 rfl).at hx9 hi10).cells
 refine sq (v := (.agg #[(I x8.1), (I x8.2)])) (rv_load Tryz.underlying35 rfl ti35 rfl hl13 hc14) (sq_end ?_)
 intro σ15 hm16
 replace H := H.grow (hm16.mono fun _ h => h); clear hm16
 replace h := bind_some h
 obtain ⟨r17, hx18, h⟩ := h
 have hc19 := c_impl_compareHits hx18
 refine sc hc19 rfl hn0 (H.sel' [0] rfl rfl : Hp S0 σ0 _ ([] ++ _)) ?_
 rintro _ σ20 ⟨_, ⟨rfl, rfl⟩, H, -⟩
 replace H : Hp _ _ _ [_] := H
 refine st (v := (B (decide (0 < r17)))) (rv_gtr (a := r17) (b := 0) rfl rfl) (sa (B (decide (0 < r17))) rfl (we (c_ret ?_)))
 obtain rfl := si h
 exact fin_ret (v := (B (decide (0 < r17)))) (results_ok Tryz.results122 (res_tmp (v := (B (decide (0 < r17)))) rfl res_nil) rfl) ⟨rfl, rfl⟩ (H.sel' [] rfl rfl)

theorem c_impl_hitHeap_Swap {By : List (Int × Int)} {Cn : Int} {Cp : Int} {Bz : Option Addr} {Ca : Nat} {r : (List (Int × Int))} (h : M.impl_hitHeap_Swap By Cn Cp = some r) :
    Cal2 Tryz.prog 123 [(Sl Bz By Ca), (I Cn), (I Cp)] [Ch.own 0 0 (Sl Bz By Ca) By] (fun n0 v L => v = (.tuple #[]) ∧ L = [Ch.own 0 0 (Sl Bz r Ca) r] ∧ r.length = By.length) := by
 refine cal2 (n := 20) Tryz.func123 rfl rfl rfl rfl ?_
 intro S0 σ0 n0 hn0 H
 unfold M.impl_hitHeap_Swap at h
 replace h := bind_some h
 obtain ⟨x1, hx2, h⟩ := h
 obtain ⟨b4, o5, hi3, -⟩ := (H.own 0 rfl).ix hx2
 obtain ⟨_, ⟨_, _, rfl, rfl, rfl⟩, hl6, hc7⟩ := ((H.own 0 rfl).at hx2 hi3).cells
 replace h := bind_some h
 obtain ⟨x8, hx9, h⟩ := h
 obtain ⟨b11, o12, hi10, -⟩ := (H.own 0 rfl).ix hx9
 obtain ⟨_, ⟨_, _, rfl, rfl, rfl⟩, hl13, hc14⟩ := ((H.own 0 rfl).at hx9 hi10).cells
 replace h := bind_some h
 obtain ⟨x15, hx16, h⟩ := h
 obtain ⟨b18, o19, hi17, -⟩ := (H.own 0 rfl).ix hx16
 have Hs := H
 refine rg2 (σ := σ0) (Nm := Unit) 14 [13] [[false], [true]] [[(0, 0)], [(0, 0)], [(0, 0), (1, 1)], [(0, 0), (1, 1)], [(0, 0)], [(0, 0)], [(0, 0)], [(0, 0)], [(0, 0)], [(0, 0)], [(0, 0)], [(0, 0)], [(0, 0)], [(0, 1)]] 1 [fun _ => fun σm => Hp S0 σ0 σm [Ch.own 0 0 (Sl Bz By Ca) By] ∧ Md (cov []) σ0 σm, fun _ => fun σm => Hp S0 σ0 σm [Ch.own 0 0 (Sl Bz By Ca) (By.set Cn.toNat (x1.1, x1.2))] ∧ Md (fun i => (cov []) i ∨ (fun b => blk (Sl Bz By Ca) = some b) i) σ0 σm] [fun _ => (Sl Bz By Ca), fun _ => (I Cn), fun _ => (Sl Bz By Ca), fun _ => (I Cp), fun _ => (Sl Bz By Ca), fun _ => (I Cp), fun _ => (pt b4 o5), fun _ => (.agg #[(I x1.1), (I x1.2)]), fun _ => (Sl Bz By Ca), fun _ => (I Cn), fun _ => (pt b11 o12), fun _ => (.agg #[(I x8.1), (I x8.2)]), fun _ => (pt b18 o19), fun _ => undef] () (by kernel_rfl) (by kernel_rfl) ?_ ?_ ?_
 ·intro σm m0
  exact ⟨H.grow (m0.mono fun _ h => h.elim), m0⟩
 ·refine am rfl rfl (fun _ => rfl) ?_
  refine am rfl rfl (fun _ => rfl) (am rfl rfl (fun _ => rfl) (am rfl rfl (fun _ => rfl) (am rfl rfl (fun _ => rfl) (am rfl rfl (fun _ => rfl) (ac rfl (fun _ _ _ _ J o f => dp_v (v := (pt b4 o5)) wn (rv_ix Tryz.underlying62 ti35 (f 4 rfl rfl 10 rfl) (f 5 rfl rfl 11 rfl) hi3) rfl J) ?_)))))
  refine all_cons (by
    refine ⟨?_, ?_⟩
    ·intro _nm ρ σm hJ hoff hdep
     have e12 := hdep 6 rfl rfl 12 rfl
     obtain ⟨H, m⟩ := id hJ
     obtain ⟨_, ⟨_, _, rfl, rfl, rfl⟩, hl6, hc7⟩ := ((H.own 0 rfl).at hx2 hi3).cells
     exact dp_v (v := (.agg #[(I x1.1), (I x1.2)])) wn (rv_load Tryz.underlying35 rfl ti35 e12 hl6 hc7) rfl hJ
    trivial) ?_
  refine am rfl rfl (fun _ => rfl) (am rfl rfl (fun _ => rfl) (ac rfl (fun _ _ _ _ J o f => dp_v (v := (pt b11 o12)) wn (rv_ix Tryz.underlying62 ti35 (f 8 rfl rfl 14 rfl) (f 9 rfl rfl 15 rfl) hi10) rfl J) ?_))
  refine all_cons (by
    refine ⟨?_, ?_⟩
    ·intro _nm ρ σm hJ hoff hdep
     have e16 := hdep 10 rfl rfl 16 rfl
     obtain ⟨H, m⟩ := id hJ
     obtain ⟨_, ⟨_, _, rfl, rfl, rfl⟩, hl13, hc14⟩ := ((H.own 0 rfl).at hx9 hi10).cells
     exact dp_v (v := (.agg #[(I x8.1), (I x8.2)])) wn (rv_load Tryz.underlying35 rfl ti35 e16 hl13 hc14) rfl hJ
    trivial) ?_
  refine ac rfl (fun _ _ _ _ J o f => dp_v (v := (pt b18 o19)) wn (rv_ix Tryz.underlying62 ti35 (f 0 rfl rfl 6 rfl) (f 1 rfl rfl 7 rfl) hi17) rfl J) ?_
  refine all_cons (by
    refine ⟨?_, ?_⟩
    ·intro _nm ρ σm hJ hoff hdep
     have e18 := hdep 12 rfl rfl 18 rfl
     have e13 := hdep 7 rfl rfl 13 rfl
     obtain ⟨H, m⟩ := id hJ
     refine dp_exS wn rfl (ex_store_own (e' := (x1.1, x1.2)) (vs := [(I x1.1), (I x1.2)]) (k := 0) H (i := 0) rfl ti35 hx16 hi17 e18 rfl e13 rfl rfl (Nat.le_of_ble_eq_true rfl) (by simp [plain]) (by rintro _ ⟨_, _, rfl, rfl, rfl⟩; exact ⟨[(I x1.1)], [(I x1.2)], rfl, rfl, rfl⟩)) ?_
     rintro σq ⟨H2, m2⟩
     exact ⟨_, (), rfl, ⟨H2.sel' [0] rfl rfl, m.comp m2⟩, stab [0, 1, 2, 3, 4, 5, 6, 7, 8, 9, 10, 11, 12] (by kernel_rfl) ⟨rfl, rfl, rfl, rfl, rfl, rfl, rfl, rfl, rfl, rfl, rfl, rfl, rfl, trivial⟩⟩
    trivial) ?_
  exact all_nil
 ·intro _nm ρ σ20 hJ hoff hrel
  obtain ⟨H, -⟩ := (show Hp S0 σ0 σ20 [Ch.own 0 0 (Sl Bz By Ca) (By.set Cn.toNat (x1.1, x1.2))] ∧ Md (fun i => (cov []) i ∨ (fun b => blk (Sl Bz By Ca) = some b) i) σ0 σ20 from hJ)
  clear hJ Hs
  rw [fr_lookL (L := [(0, (Sl Bz By Ca)), (8, (Sl Bz By Ca)), (9, (I Cp)), (17, (.agg #[(I x8.1), (I x8.2)]))]) ⟨look_off (hoff 0 rfl) rfl, hrel 2 rfl 8 rfl, hrel 3 rfl 9 rfl, hrel 11 rfl 17 rfl, trivial⟩]
  clear hoff hrel
  have hsl : (Sl Bz By Ca) = (Sl Bz (By.set Cn.toNat (x1.1, x1.2)) Ca) := sl_len (by simp)
  rw [hsl]; rw [hsl] at H; clear hsl
  replace h := bind_some h
  obtain ⟨x21, hx22, h⟩ := h
  obtain ⟨b24, o25, hi23, -⟩ := (H.own 0 rfl).ix hx22
  refine st (v := (pt b24 o25)) (rv_ix Tryz.underlying62 ti35 rfl rfl hi23) ?_
  refine st_exS (ex_store_own (e' := (x8.1, x8.2)) (vs := [(I x8.1), (I x8.2)]) (k := 0) H (i := 0) rfl ti35 hx22 hi23 rfl rfl rfl rfl rfl (Nat.le_of_ble_eq_true rfl) (by simp [plain]) (by rintro _ ⟨_, _, rfl, rfl, rfl⟩; exact ⟨[(I x8.1)], [(I x8.2)], rfl, rfl, rfl⟩)) wn ?_
  rintro σ26 ⟨H, -⟩
  have hsl : (Sl Bz (By.set Cn.toNat (x1.1, x1.2)) Ca) = (Sl Bz ((By.set Cn.toNat (x1.1, x1.2)).set Cp.toNat (x8.1, x8.2)) Ca) := sl_len List.length_set.symm
  rw [hsl]; rw [hsl] at H; clear hsl
  refine w_end ?_
  obtain rfl := si h
  exact fin_end (v := (.tuple #[])) (results_ok Tryz.results123 res_nil rfl) ⟨rfl, rfl, (List.length_set.trans List.length_set)⟩ (H.sel' [0] rfl rfl)

end Go.Vs
