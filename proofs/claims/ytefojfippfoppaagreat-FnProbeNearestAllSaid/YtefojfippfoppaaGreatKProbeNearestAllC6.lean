/- The functions compute what their models say. -/
import Derived.Test.YtefojfippfoppaaGreatKProbeNearestAllC5
set_option linter.unusedVariables false
set_option linter.unusedSimpArgs false
set_option maxRecDepth 20000
namespace Go.Vs
open Go Go.Proofs
attribute [local irreducible] Code.wp Code.wpIn wpList wpListIn wpQuiet Calls CallsIn

theorem c_spec_anyStore {Bb : (List UInt8) × Int} {Fb : Option Addr} {Fc : Nat} {Bc Bd Be : Nat} {Bf Bg : List Value} {r : (List (Int × (List Int) × Int)) × ((List UInt8) × Int)} (h : M.spec_anyStore Bb = some r) :
    Cal2 Tryz.prog 43 [(pt Bd Be)] [Ch.bx Bc Bd Be [(Sl Fb Bb.1 Fc), (I Bb.2)] Bf Bg, Ch.ro 0 (Sl Fb Bb.1 Fc) Bb.1] (fun n0 v L => ∃ (az1 : Option Addr), ∃ (cz2 : Nat), ∃ (az3 : Option Addr), ∃ (cz4 : Nat), v = (Sl az1 r.1 cz2) ∧ L = [Ch.own n0 n0 (Sl az1 r.1 cz2) r.1, Ch.bx Bc Bd Be [(Sl az3 r.2.1 cz4), (I r.2.2)] Bf Bg, Ch.ro 0 (Sl az3 r.2.1 cz4) r.2.1]) := by
 refine cal2 (n := 30) Tryz.func43 rfl rfl rfl rfl ?_
 intro S0 σ0 n0 hn0 H
 unfold M.spec_anyStore at h
 refine c_seq (rg (sa (.slice none 0 0) rfl (w_end (q_then (c_seq (rg (sm (pt Bd Be) rfl ?_)))))))
 revert h; refine br fun r1 hx2 h => ?_
 have hc3 := c_spec_someStore (Bc := Bc) (Bd := Bd) (Be := Be) (Bf := Bf) (Bg := Bg) (Fb := Fb) (Fc := Fc) hx2
 refine st_call (cx_call hc3 (ent_f hc3.fn rfl) hn0 (H.sel' [0, 1, 1] rfl rfl : Hp S0 σ0 _ ([_, _] ++ _))) wn ?_
 rintro _ σ8 ⟨_, ⟨a4, c5, a6, c7, rfl, rfl⟩, H, -⟩
 replace H : Hp _ _ _ [_, _, _, _] := H
 refine sa (Sl a4 r1.1 c5) rfl (w_end (q_then (c_seq (c_seq (rg (sm (pt Bd Be) rfl ?_))))))
 revert h; refine br fun r9 hx10 h => ?_
 have hc11 := c_spec_reader_pick (Bc := Bc) (Bd := Bd) (Be := Be) (Bf := Bf) (Bg := Bg) (Fb := a6) (Fc := c7) hx10
 refine st_call (cx_call hc11 (ent_f hc11.fn rfl) hn0 (H.sel' [1, 2, 0, 2, 3] rfl rfl : Hp S0 σ0 _ ([_, _] ++ _))) wn ?_
 rintro _ σ14 ⟨_, ⟨a12, c13, rfl, rfl⟩, H, -⟩
 replace H : Hp _ _ _ [_, _, _, _, _] := H
 refine w_end (q_then ?_)
 obtain ⟨o15, hj, h'⟩ := bind_some h
 clear h
 refine c_cut (fun e a w => e = .normal ∧ ∃ (ρ : Nat → Value) (σ : St) (aj1 : Option Addr) (cj2 : Nat) (aj3 : Option Addr) (cj4 : Nat), a = fr 30 (updL ρ [(0, (pt Bd Be)), (3, (Sl aj3 o15.2 cj4))]) ∧ w = σ.w ∧ Hp S0 σ0 σ [Ch.bx Bc Bd Be [(Sl aj1 o15.1.1 cj2), (I o15.1.2)] Bf Bg, Ch.ro 0 (Sl aj1 o15.1.1 cj2) o15.1.1, Ch.own n0 n0 (Sl aj3 o15.2 cj4) o15.2]) ?_ ?_
 ·clear h'
  rename _ = some o15 => h
  refine c_blk (c_seq (rg (st (v := (B (r9.1 == 0))) (rv_eql (a := r9.1) (b := 0) rfl rfl) (sa (B (r9.1 == 0)) rfl (w_end (q_then ?_))))))
  refine cd_cond (r9.1 == 0) rfl (fun hb16 => ?_) (fun hb16 => ?_)
  ·replace h := bif_t hb16 h
   refine rg (sm (Sl a4 r1.1 c5) rfl (sm (pt Bd Be) rfl ?_))
   revert h; refine br fun r17 hx18 h => ?_
   have hc19 := c_spec_anyItem (Bc := Bc) (Bd := Bd) (Be := Be) (Bf := Bf) (Bg := Bg) (Fb := a12) (Fc := c13) hx18
   refine st_call (cx_call hc19 (ent_f hc19.fn rfl) hn0 (H.sel' [0, 1, 1, 2, 3, 4] rfl rfl : Hp S0 σ0 _ ([_, _] ++ _))) wn ?_
   rintro _ σ24 ⟨_, ⟨a20, c21, a22, c23, rfl, rfl⟩, H, -⟩
   replace H : Hp _ _ _ [_, _, _, _, _, _, _] := H
   obtain ⟨σ25, hw26, H, -⟩ := H.pub 0 rfl (Nat.le_refl _)
   rw [← hw26]; clear hw26
   refine st_ex (ex_buildSlice (el := n0) (xs := ([(r17.1.1, r17.1.2.1, r17.1.2.2)] : List (Int × (List Int) × Int))) (ps := [(0, (.agg #[(I r17.1.1), (Sl a20 r17.1.2.1 c21), (I r17.1.2.2)]))]) (cs := [(I r17.1.1), (Sl a20 r17.1.2.1 c21), (I r17.1.2.2)]) H hn0 Tryz.underlying23 ti79 rfl rfl (by kernel_rfl) (.cons (c := [(I r17.1.1), (Sl a20 r17.1.2.1 c21), (I r17.1.2.2)]) ⟨[(I r17.1.1)], [(Sl a20 r17.1.2.1 c21), (I r17.1.2.2)], rfl, rfl, ⟨[(Sl a20 r17.1.2.1 c21)], [(I r17.1.2.2)], rfl, ⟨_, rfl, (H.ro 0 rfl)⟩, rfl⟩⟩ (.nil)) rfl) wn ?_
   rintro _ σ28 ⟨b27, rfl, H, -⟩
   replace H : Hp S0 σ0 σ28 [Ch.own n0 n0 (Sl (some ⟨b27, 0, none⟩) ([(r17.1.1, r17.1.2.1, r17.1.2.2)] : List (Int × (List Int) × Int)) 1) ([(r17.1.1, r17.1.2.1, r17.1.2.2)] : List (Int × (List Int) × Int)), Ch.bx Bc Bd Be [(Sl a22 r17.2.1 c23), (I r17.2.2)] Bf Bg, Ch.ro 0 (Sl a22 r17.2.1 c23) r17.2.1, Ch.own n0 n0 (Sl a4 r1.1 c5) r1.1] := H.sel' [0, 2, 3, 5] rfl rfl
   revert h; refine br fun xs29 hx30 h => ?_
   refine st_ex (ex_append H (i := 3) rfl Tryz.underlying23 Tryz.underlying23 ti79 rfl rfl (by decide) (H.own 0 rfl).rd hx30 hn0 rfl rfl) wn ?_
   rintro _ σ33 ⟨a31, c32, rfl, H, -⟩
   refine sa (Sl a31 xs29 c32) rfl (w_end (q_blk ?_))
   obtain rfl := sj h
   exact ⟨rfl, _, σ33, a22, c23, a31, c32, fr_join ⟨rfl, rfl, trivial⟩, rfl, H.sel' [2, 3, 0] rfl rfl⟩
  ·replace h := bif_f hb16 h
   refine c_seq (rg (st (v := (B (r9.1 == 1))) (rv_eql (a := r9.1) (b := 1) rfl rfl) (sa (B (r9.1 == 1)) rfl (w_end (q_then ?_)))))
   refine cd_cond (r9.1 == 1) rfl (fun hb34 => ?_) (fun hb34 => ?_)
   ·replace h := bif_t hb34 h
    refine c_seq (rg (sm (Sl a4 r1.1 c5) rfl (st (v := (I (r1.1.length : Int))) (rv_len Tryz.underlying23 rfl) (st (v := (B (decide (0 < (r1.1.length : Int))))) (rv_gtr (a := (r1.1.length : Int)) (b := 0) rfl rfl) (w_end (q_then ?_))))))
    refine cd_cond (decide (0 < (r1.1.length : Int))) rfl (fun hb35 => ?_) (fun hb35 => ?_)
    ·replace h := bif_t hb35 h
     refine rg (sm (Sl a4 r1.1 c5) rfl (sm (pt Bd Be) rfl (sm (Sl a4 r1.1 c5) rfl (st (v := (I (r1.1.length : Int))) (rv_len Tryz.underlying23 rfl) ?_))))
     revert h; refine br fun r36 hx37 h => ?_
     have hc38 := c_spec_reader_pick (Bc := Bc) (Bd := Bd) (Be := Be) (Bf := Bf) (Bg := Bg) (Fb := a12) (Fc := c13) hx37
     refine st_call (cx_call hc38 (ent_f hc38.fn rfl) hn0 (H.sel' [0, 1, 1, 2, 3, 4] rfl rfl : Hp S0 σ0 _ ([_, _] ++ _))) wn ?_
     rintro _ σ41 ⟨_, ⟨a39, c40, rfl, rfl⟩, H, -⟩
     replace H : Hp _ _ _ [_, _, _, _, _, _] := H
     refine sm (pt Bd Be) rfl ?_
     revert h; refine br fun r42 hx43 h => ?_
     have hc44 := c_spec_anyVector (Bc := Bc) (Bd := Bd) (Be := Be) (Bf := Bf) (Bg := Bg) (Fb := a39) (Fc := c40) hx43
     refine st_call (cx_call hc44 (ent_f hc44.fn rfl) hn0 (H.sel' [0, 1, 1, 2, 3, 4, 5] rfl rfl : Hp S0 σ0 _ ([_, _] ++ _))) wn ?_
     rintro _ σ49 ⟨_, ⟨a45, c46, a47, c48, rfl, rfl⟩, H, -⟩
     replace H : Hp _ _ _ [_, _, _, _, _, _, _, _] := H
     replace H : Hp S0 σ0 σ49 [Ch.own n0 n0 (Sl a45 r42.1 c46) r42.1, Ch.bx Bc Bd Be [(Sl a47 r42.2.1 c48), (I r42.2.2)] Bf Bg, Ch.ro 0 (Sl a47 r42.2.1 c48) r42.2.1, Ch.own n0 n0 (Sl a4 r1.1 c5) r1.1] := H.sel' [0, 1, 2, 5] rfl rfl
     revert h; refine br fun x50 hx51 h => ?_
     obtain ⟨b53, o54, hi52, -⟩ := (H.own 3 rfl).ix hx51
     refine st (v := (pt b53 o54)) (rv_ix Tryz.underlying23 ti79 rfl rfl hi52) (st (v := (pt b53 (o54 + 1))) (rv_fieldAddr (off := 1) (ft := 24) Tryz.underlying79 rfl ti24 rfl rfl) ?_)
     obtain ⟨σ55, hw56, H, -⟩ := H.pub 0 rfl (Nat.le_refl _)
     rw [← hw56]; clear hw56
     refine st_exS (ex_store_own (e' := (x50.1, r42.1, x50.2.2)) (vs := [(Sl a45 r42.1 c46)]) (k := 1) H (i := 3) rfl ti24 hx51 hi52 rfl rfl rfl rfl rfl (Nat.le_of_ble_eq_true rfl) (by simp [plain]) (by rintro _ ⟨_, _, rfl, rfl, ⟨_, _, rfl, ⟨_, rfl, hR59⟩, rfl⟩⟩; exact ⟨[(I x50.1)], [(Sl a45 r42.1 c46), (I x50.2.2)], rfl, rfl, ⟨[(Sl a45 r42.1 c46)], [(I x50.2.2)], rfl, ⟨_, rfl, (H.ro 0 rfl)⟩, rfl⟩⟩)) wn ?_
     rintro σ60 ⟨H, -⟩
     have hsl : (Sl a4 r1.1 c5) = (Sl a4 (r1.1.set r36.1.toNat (x50.1, r42.1, x50.2.2)) c5) := sl_len List.length_set.symm
     rw [hsl]; rw [hsl] at H; clear hsl
     refine w_end (q_blk ?_)
     obtain rfl := sj h
     exact ⟨rfl, _, σ60, a47, c48, a4, c5, fr_join ⟨rfl, rfl, trivial⟩, rfl, H.sel' [2, 3, 0] rfl rfl⟩
    ·replace h := bif_f hb35 h
     refine c_skip (q_blk ?_)
     obtain rfl := sj h
     exact ⟨rfl, _, σ14, a12, c13, a4, c5, fr_join ⟨rfl, rfl, trivial⟩, rfl, H.sel' [0, 1, 2] rfl rfl⟩
   ·replace h := bif_f hb34 h
    refine c_skip (q_blk ?_)
    obtain rfl := sj h
    exact ⟨rfl, _, σ14, a12, c13, a4, c5, fr_join ⟨rfl, rfl, trivial⟩, rfl, H.sel' [0, 1, 2] rfl rfl⟩
 ·clear hj
  have h := h'
  clear h' H
  rintro e a w ⟨rfl, ρ, σ61, a62, c63, a64, c65, rfl, rfl, H⟩
  refine q_then (c_seq (rg (sm (Sl a64 o15.2 c65) rfl (sa (Sl a64 o15.2 c65) rfl (w_end (q_then (c_ret ?_)))))))
  obtain rfl := sj h
  exact fin_ret (v := (Sl a64 o15.2 c65)) (results_ok Tryz.results43 (res_tmp (v := (Sl a64 o15.2 c65)) rfl res_nil) rfl) ⟨a64, c65, a62, c63, rfl, rfl⟩ (H.sel' [2, 0, 1] rfl rfl)

theorem c_spec_someK {Bb : (List UInt8) × Int} {Fb : Option Addr} {Fc : Nat} {Bc Bd Be : Nat} {Bf Bg : List Value} {r : Int × ((List UInt8) × Int)} (h : M.spec_someK Bb = some r) :
    Cal2 Tryz.prog 46 [(pt Bd Be)] [Ch.bx Bc Bd Be [(Sl Fb Bb.1 Fc), (I Bb.2)] Bf Bg, Ch.ro 0 (Sl Fb Bb.1 Fc) Bb.1] (fun n0 v L => ∃ (az1 : Option Addr), ∃ (cz2 : Nat), v = (I r.1) ∧ L = [Ch.bx Bc Bd Be [(Sl az1 r.2.1 cz2), (I r.2.2)] Bf Bg, Ch.ro 0 (Sl az1 r.2.1 cz2) r.2.1]) := by
 refine cal2 (n := 6) Tryz.func46 rfl rfl rfl rfl ?_
 intro S0 σ0 n0 hn0 H
 unfold M.spec_someK at h
 refine c_seq (rg (sa (I 0) rfl (w_end (q_then (c_seq (rg (sm (pt Bd Be) rfl ?_)))))))
 refine st_ex (ex_buildSlice (el := n0) (xs := ([1, 2, 3, 5, 16, 4, 0, 17] : List Int)) (ps := [(0, (I 1)), (1, (I 2)), (2, (I 3)), (3, (I 5)), (4, (I 16)), (5, (I 4)), (6, (I 0)), (7, (I 17))]) (cs := [(I 1), (I 2), (I 3), (I 5), (I 16), (I 4), (I 0), (I 17)]) H hn0 Tryz.underlying24 ti3 rfl rfl (by kernel_rfl) (.cons (c := [(I 1)]) rfl (.cons (c := [(I 2)]) rfl (.cons (c := [(I 3)]) rfl (.cons (c := [(I 5)]) rfl (.cons (c := [(I 16)]) rfl (.cons (c := [(I 4)]) rfl (.cons (c := [(I 0)]) rfl (.cons (c := [(I 17)]) rfl (.nil))))))))) rfl) wn ?_
 rintro _ σ2 ⟨b1, rfl, H, -⟩
 obtain ⟨σ3, hw4, H, -⟩ := H.pub 0 rfl (Nat.le_refl _)
 rw [← hw4]; clear hw4
 replace H := H.roLow 0 0 rfl (Nat.zero_le _)
 revert h; refine br fun r5 hx6 h => ?_
 have hc7 := c_spec_reader_one (Bc := Bc) (Bd := Bd) (Be := Be) (Bf := Bf) (Bg := Bg) (Fb := Fb) (Fc := Fc) (Fe := (some ⟨b1, 0, none⟩)) (Ff := 8) hx6
 refine st_call (cx_call hc7 (ent_f hc7.fn rfl) hn0 (H.sel' [2, 3, 0, 0, 1, 3] rfl rfl : Hp S0 σ0 _ ([_, _, _] ++ _))) wn ?_
 rintro _ σ10 ⟨_, ⟨a8, c9, rfl, rfl⟩, H, -⟩
 replace H : Hp _ _ _ [_, _, _, _, _] := H
 refine sa (I r5.1) rfl (w_end (q_then (c_ret ?_)))
 obtain rfl := sj h
 exact fin_ret (v := (I r5.1)) (results_ok Tryz.results46 (res_tmp (v := (I r5.1)) rfl res_nil) rfl) ⟨a8, c9, rfl, rfl⟩ (H.sel' [0, 1] rfl rfl)

theorem c_spec_DrawProbeNearest {Ew : List UInt8} {Ey : Option Addr} {Ez : Nat} {r : (List (List Int)) × (List (Int × (List Int) × Int)) × (List Int) × Int × Int} (h : M.spec_DrawProbeNearest Ew = some r) :
    Cal2 Tryz.prog 16 [(Sl Ey Ew Ez)] [Ch.ro 0 (Sl Ey Ew Ez) Ew] (fun n0 v L => ∃ (az1 : Option Addr), ∃ (cz2 : Nat), ∃ (az3 : Option Addr), ∃ (cz4 : Nat), ∃ (az5 : Option Addr), ∃ (cz6 : Nat), v = (.tuple #[(Sl az1 r.1 cz2), (Sl az3 r.2.1 cz4), (Sl az5 r.2.2.1 cz6), (I r.2.2.2.1), (I r.2.2.2.2)]) ∧ L = [Ch.own n0 n0 (Sl az1 r.1 cz2) r.1, Ch.own n0 n0 (Sl az3 r.2.1 cz4) r.2.1, Ch.own n0 n0 (Sl az5 r.2.2.1 cz6) r.2.2.1]) := by
 refine cal2 (n := 29) Tryz.func16 rfl rfl rfl rfl ?_
 intro S0 σ0 n0 hn0 H
 unfold M.spec_DrawProbeNearest at h
 refine c_seq (rg (sa (.slice none 0 0) rfl (sa (.slice none 0 0) rfl (sa (.slice none 0 0) rfl (sa (I 0) rfl (sa (I 0) rfl (w_end (q_then (c_seq (rg (sm (Sl Ey Ew Ez) rfl ?_)))))))))))
 revert h; refine br fun r1 hx2 h => ?_
 have hc3 := c_spec_newReader (Ey := Ey) (Ez := Ez) hx2
 refine st_call (cx_call hc3 (ent_f hc3.fn rfl) hn0 (H.sel' [0, 0] rfl rfl : Hp S0 σ0 _ ([_] ++ _))) wn ?_
 rintro _ σ7 ⟨_, ⟨b4, a5, c6, rfl, rfl⟩, H, -⟩
 replace H : Hp _ _ _ [_, _, _] := H
 refine sa (pt b4 0) rfl (w_end (q_then (c_seq (rg (sm (pt b4 0) rfl ?_)))))
 revert h; refine br fun r8 hx9 h => ?_
 have hc10 := c_spec_anyCentres (Bc := n0) (Bd := b4) (Be := 0) (Bf := []) (Bg := []) (Fb := a5) (Fc := c6) hx9
 refine st_call (cx_call hc10 (ent_f hc10.fn rfl) hn0 (H.sel' [0, 1, 1, 2] rfl rfl : Hp S0 σ0 _ ([_, _] ++ _))) wn ?_
 rintro _ σ15 ⟨_, ⟨a11, c12, a13, c14, rfl, rfl⟩, H, -⟩
 replace H : Hp _ _ _ [_, _, _, _, _] := H
 refine sa (Sl a11 r8.1 c12) rfl (w_end (q_then (c_seq (rg (sm (pt b4 0) rfl ?_)))))
 revert h; refine br fun r16 hx17 h => ?_
 have hc18 := c_spec_anyStore (Bc := n0) (Bd := b4) (Be := 0) (Bf := []) (Bg := []) (Fb := a13) (Fc := c14) hx17
 refine st_call (cx_call hc18 (ent_f hc18.fn rfl) hn0 (H.sel' [1, 2, 0, 2, 3, 4] rfl rfl : Hp S0 σ0 _ ([_, _] ++ _))) wn ?_
 rintro _ σ23 ⟨_, ⟨a19, c20, a21, c22, rfl, rfl⟩, H, -⟩
 replace H : Hp _ _ _ [_, _, _, _, _, _, _] := H
 refine sa (Sl a19 r16.1 c20) rfl (w_end (q_then (c_seq (rg (sm (pt b4 0) rfl ?_)))))
 revert h; refine br fun r24 hx25 h => ?_
 have hc26 := c_spec_anyVector (Bc := n0) (Bd := b4) (Be := 0) (Bf := []) (Bg := []) (Fb := a21) (Fc := c22) hx25
 refine st_call (cx_call hc26 (ent_f hc26.fn rfl) hn0 (H.sel' [1, 2, 0, 2, 3, 4, 5, 6] rfl rfl : Hp S0 σ0 _ ([_, _] ++ _))) wn ?_
 rintro _ σ31 ⟨_, ⟨a27, c28, a29, c30, rfl, rfl⟩, H, -⟩
 replace H : Hp _ _ _ [_, _, _, _, _, _, _, _, _] := H
 replace H : Hp S0 σ0 σ31 [Ch.own n0 n0 (Sl a27 r24.1 c28) r24.1, Ch.bx n0 b4 0 [(Sl a29 r24.2.1 c30), (I r24.2.2)] [] [], Ch.ro 0 (Sl a29 r24.2.1 c30) r24.2.1, Ch.own n0 n0 (Sl a19 r16.1 c20) r16.1, Ch.own n0 n0 (Sl a11 r8.1 c12) r8.1] := H.sel' [0, 1, 2, 3, 5] rfl rfl
 refine sa (Sl a27 r24.1 c28) rfl (w_end (q_then (c_seq (rg (sm (pt b4 0) rfl ?_)))))
 refine st_ex (ex_buildSlice (el := n0) (xs := ([1, 2, 3, 4, 0, 5, 1] : List Int)) (ps := [(0, (I 1)), (1, (I 2)), (2, (I 3)), (3, (I 4)), (4, (I 0)), (5, (I 5)), (6, (I 1))]) (cs := [(I 1), (I 2), (I 3), (I 4), (I 0), (I 5), (I 1)]) H hn0 Tryz.underlying24 ti3 rfl rfl (by kernel_rfl) (.cons (c := [(I 1)]) rfl (.cons (c := [(I 2)]) rfl (.cons (c := [(I 3)]) rfl (.cons (c := [(I 4)]) rfl (.cons (c := [(I 0)]) rfl (.cons (c := [(I 5)]) rfl (.cons (c := [(I 1)]) rfl (.nil)))))))) rfl) wn ?_
 rintro _ σ33 ⟨b32, rfl, H, -⟩
 obtain ⟨σ34, hw35, H, -⟩ := H.pub 0 rfl (Nat.le_refl _)
 rw [← hw35]; clear hw35
 replace H := H.roLow 0 0 rfl (Nat.zero_le _)
 revert h; refine br fun r36 hx37 h => ?_
 have hc38 := c_spec_reader_one (Bc := n0) (Bd := b4) (Be := 0) (Bf := []) (Bg := []) (Fb := a29) (Fc := c30) (Fe := (some ⟨b32, 0, none⟩)) (Ff := 7) hx37
 refine st_call (cx_call hc38 (ent_f hc38.fn rfl) hn0 (H.sel' [3, 4, 0, 0, 1, 2, 4, 5, 6] rfl rfl : Hp S0 σ0 _ ([_, _, _] ++ _))) wn ?_
 rintro _ σ41 ⟨_, ⟨a39, c40, rfl, rfl⟩, H, -⟩
 replace H : Hp _ _ _ [_, _, _, _, _, _, _, _] := H
 replace H : Hp S0 σ0 σ41 [Ch.bx n0 b4 0 [(Sl a39 r36.2.1 c40), (I r36.2.2)] [] [], Ch.ro 0 (Sl a39 r36.2.1 c40) r36.2.1, Ch.own n0 n0 (Sl a27 r24.1 c28) r24.1, Ch.own n0 n0 (Sl a19 r16.1 c20) r16.1, Ch.own n0 n0 (Sl a11 r8.1 c12) r8.1] := H.sel' [0, 1, 4, 6, 7] rfl rfl
 refine sa (I r36.1) rfl (w_end (q_then (c_seq (rg (sm (Sl a11 r8.1 c12) rfl (sm (Sl a19 r16.1 c20) rfl (sm (Sl a27 r24.1 c28) rfl (sm (I r36.1) rfl (sm (pt b4 0) rfl ?_)))))))))
 revert h; refine br fun r42 hx43 h => ?_
 have hc44 := c_spec_someK (Bc := n0) (Bd := b4) (Be := 0) (Bf := []) (Bg := []) (Fb := a39) (Fc := c40) hx43
 refine st_call (cx_call hc44 (ent_f hc44.fn rfl) hn0 (H.sel' [0, 1, 1, 2, 3, 4] rfl rfl : Hp S0 σ0 _ ([_, _] ++ _))) wn ?_
 rintro _ σ47 ⟨_, ⟨a45, c46, rfl, rfl⟩, H, -⟩
 replace H : Hp _ _ _ [_, _, _, _, _, _] := H
 refine sa (Sl a11 r8.1 c12) rfl (sa (Sl a19 r16.1 c20) rfl (sa (Sl a27 r24.1 c28) rfl (sa (I r36.1) rfl (sa (I r42.1) rfl (w_end (q_then (c_ret ?_)))))))
 obtain rfl := sj h
 exact fin_ret (v := (.tuple #[(Sl a11 r8.1 c12), (Sl a19 r16.1 c20), (Sl a27 r24.1 c28), (I r36.1), (I r42.1)])) (results_ok Tryz.results16 (res_tmp (v := (Sl a11 r8.1 c12)) rfl (res_tmp (v := (Sl a19 r16.1 c20)) rfl (res_tmp (v := (Sl a27 r24.1 c28)) rfl (res_tmp (v := (I r36.1)) rfl (res_tmp (v := (I r42.1)) rfl res_nil))))) rfl) ⟨a11, c12, a19, c20, a27, c28, rfl, rfl⟩ (H.sel' [5, 4, 3] rfl rfl)

theorem c_impl_ValidCentres {Ar : List (List Int)} {As : Option Addr} {Au : Nat} {r : Bool} (h : M.impl_ValidCentres Ar = some r) :
    Cal2 Tryz.prog 19 [(Sl As Ar Au)] [Ch.ro 0 (Sl As Ar Au) Ar] (fun n0 v L => v = (B r) ∧ L = []) := by
 refine cal2 (n := 23) Tryz.func19 rfl rfl rfl rfl ?_
 intro S0 σ0 n0 hn0 H
 unfold M.impl_ValidCentres at h
 refine c_seq (rg (sa (B false) rfl (w_end (q_then (c_seq (c_seq ?_))))))
 obtain ⟨o1, hj, h'⟩ := bind_some h
 clear h
 refine c_cut (fun e a w => e = .normal ∧ ∃ (ρ : Nat → Value) (σ : St), a = fr 23 (updL ρ [(0, (Sl As Ar Au)), (12, (B o1))]) ∧ w = σ.w ∧ Hp S0 σ0 σ [Ch.ro 0 (Sl As Ar Au) Ar]) ?_ ?_
 ·clear h'
  rename _ = some o1 => h
  refine rg (sm (Sl As Ar Au) rfl (st (v := (I (Ar.length : Int))) (rv_len Tryz.underlying32 rfl) (st (v := (B (decide ((Ar.length : Int) < 1)))) (rv_lss (a := (Ar.length : Int)) (b := 1) rfl rfl) (sm (B (decide ((Ar.length : Int) < 1))) rfl ?_))))
  rcases Bool.eq_false_or_eq_true (decide ((Ar.length : Int) < 1)) with hb2 | hb2
  ·replace h := bif_t hb2 h
   refine st_skip (congrArg some hb2) (st_skip (congrArg some hb2) (st_skip (congrArg some hb2) (st (v := (B true)) (rv_pick_t (congrArg B hb2) rfl) (w_end ?_))))
   obtain rfl := sj h
   exact ⟨rfl, _, σ0, fr_join ⟨rfl, rfl, trivial⟩, rfl, H.sel' [0] rfl rfl⟩
  ·replace h := bif_f hb2 h
   refine st_g (v := (Sl As Ar Au)) (congrArg some hb2) (rv_move rfl) (st_g (v := (I (Ar.length : Int))) (congrArg some hb2) (rv_len Tryz.underlying32 rfl) (st_g (v := (B (decide (4 < (Ar.length : Int))))) (congrArg some hb2) (rv_gtr (a := (Ar.length : Int)) (b := 4) rfl rfl) (st (v := (B (decide (4 < (Ar.length : Int))))) (rv_pick_f (congrArg B hb2) rfl) (w_end ?_))))
   obtain rfl := sj h
   exact ⟨rfl, _, σ0, fr_join ⟨rfl, rfl, trivial⟩, rfl, H.sel' [0] rfl rfl⟩
 ·clear hj
  have h := h'
  clear h' H
  rintro e a w ⟨rfl, ρ, σ3, rfl, rfl, H⟩
  refine q_then ?_
  refine cd_cond o1 rfl (fun hb4 => ?_) (fun hb4 => ?_)
  ·replace h := bif_t hb4 h
   refine c_seq (rg (sa (B false) rfl (w_end (q_then (c_ret (q_then_r ?_))))))
   obtain rfl := sj h
   exact fin_ret (v := (B false)) (results_ok Tryz.results19 (res_tmp (v := (B false)) rfl res_nil) rfl) ⟨rfl, rfl⟩ (H.sel' [] rfl rfl)
  ·replace h := bif_f hb4 h
   refine c_skip (q_then (c_seq (c_seq (rg (sm (Sl As Ar Au) rfl (st (v := (I (Ar.length : Int))) (rv_len Tryz.underlying32 rfl) (sm (I 0) rfl (w_end (q_then ?_)))))))))
   obtain ⟨o5, hj, h'⟩ := bind_some h
   clear h
   refine c_cut (fun e a w => (∃ t, o5 = (.inl t) ∧ e = .normal ∧ ∃ (ρ : Nat → Value) (σ : St), a = fr 23 (updL ρ []) ∧ w = σ.w ∧ Hp S0 σ0 σ []) ∨ (∃ t, o5 = (.inr t) ∧ e = .ret ∧ ∃ (ρ : Nat → Value) (σ : St), a = fr 23 (updL ρ [(2, (B t))]) ∧ w = σ.w ∧ Hp S0 σ0 σ [])) ?_ ?_
   ·clear h'
    rename _ = some o5 => h
    refine c_blk (wp_loopM _ h (fun s6 a w => ∃ (ρ : Nat → Value) (σ : St), a = fr 23 (updL ρ [(13, (Sl As Ar Au)), (14, (I (Ar.length : Int))), (15, (I s6))]) ∧ w = σ.w ∧ Hp S0 σ0 σ [Ch.ro 0 (Sl As Ar Au) Ar]) ⟨_, σ3, fr_join ⟨rfl, rfl, rfl, trivial⟩, rfl, H.sel' [0] rfl rfl⟩ ?_)
    clear h H
    rintro s6 a w o ⟨ρ, σ7, rfl, rfl, H⟩ h hres
    refine c_seq (rg (st (v := (B (decide (s6 < (Ar.length : Int))))) (rv_lss (a := s6) (b := (Ar.length : Int)) rfl rfl) (w_end (q_then (c_seq ?_)))))
    refine cd_cond (decide (s6 < (Ar.length : Int))) rfl (fun hb8 => ?_) (fun hb8 => ?_)
    ·replace h := bif_t hb8 h
     refine c_skip (q_then (c_seq (c_blk (c_seq (rg ?_)))))
     revert h; refine br fun x9 hx10 h => ?_
     obtain ⟨b12, o13, hi11, -⟩ := (H.ro 0 rfl).ix hx10
     refine st (v := (pt b12 o13)) (rv_ix Tryz.underlying32 ti24 rfl rfl hi11) ?_
     obtain ⟨v17, hc18, hR16⟩ := ((H.ro 0 rfl).at hx10 hi11).slice
     obtain ⟨a14, c15, rfl⟩ := hR16.isSl
     replace H := H.add (d := Ch.ro 0 (Sl a14 x9 c15) x9) hR16 (fun _ h => h)
     clear hR16
     refine st (v := (Sl a14 x9 c15)) (rv_load1 Tryz.underlying24 rfl rfl hc18) (sa (Sl a14 x9 c15) rfl (w_end (q_then (c_seq (rg (sm (Sl a14 x9 c15) rfl ?_))))))
     revert h; refine br fun r19 hx20 h => ?_
     have hc21 := c_impl_ValidVector (Ai := a14) (Aj := c15) hx20
     refine st_call (cx_call hc21 (ent_f hc21.fn rfl) hn0 (H.sel' [0, 0, 1] rfl rfl : Hp S0 σ0 _ ([_] ++ _))) wn ?_
     rintro _ σ22 ⟨_, ⟨rfl, rfl⟩, H, -⟩
     replace H : Hp _ _ _ [_, _] := H
     refine st (v := (B (!r19))) (rv_not rfl) (w_end (q_then ?_))
     refine cd_cond (!r19) rfl (fun hb23 => ?_) (fun hb23 => ?_)
     ·replace h := bif_t hb23 h
      refine c_seq (rg (sa (B false) rfl (w_end (q_then (c_ret (q_blk_r (q_then_r (q_then_r (q_blk_r ?_)))))))))
      obtain rfl := sj h
      obtain rfl := hres _ rfl
      exact .inr (⟨_, rfl, rfl, _, σ22, fr_join ⟨rfl, trivial⟩, rfl, H.sel' [] rfl rfl⟩)
     ·replace h := bif_f hb23 h
      refine c_skip (q_blk (q_then (rg (st (v := (I (w64 (s6 + 1)))) (rv_add (a := s6) (b := 1) rfl rfl) (sm (I (w64 (s6 + 1))) rfl (w_end (q_then ?_)))))))
      obtain rfl := sj h
      exact ⟨_, rfl, _, σ22, fr_join ⟨rfl, rfl, rfl, trivial⟩, rfl, H.sel' [1] rfl rfl⟩
    ·replace h := bif_f hb8 h
     refine c_exit (q_then_x (q_then_x (q_blk_hit ?_)))
     obtain rfl := sj h
     obtain rfl := hres _ rfl
     exact .inl ⟨_, rfl, rfl, _, σ7, fr_join trivial, rfl, H.sel' [] rfl rfl⟩
   ·clear hj
    have h := h'
    clear h' H
    rintro e a w (⟨t24, rfl, rfl, ρ, σ25, rfl, rfl, H⟩ | ⟨t26, rfl, rfl, ρ, σ27, rfl, rfl, H⟩)
    ·replace h := selim_l h
     refine q_then (c_seq (rg (sa (B true) rfl (w_end (q_then (c_ret ?_))))))
     obtain rfl := sj h
     exact fin_ret (v := (B true)) (results_ok Tryz.results19 (res_tmp (v := (B true)) rfl res_nil) rfl) ⟨rfl, rfl⟩ (H.sel' [] rfl rfl)
    ·replace h := selim_r h
     refine q_then_r ?_
     obtain rfl := sj h
     exact fin_ret (v := (B t26)) (results_ok Tryz.results19 (res_tmp (v := (B t26)) rfl res_nil) rfl) ⟨rfl, rfl⟩ (H.sel' [] rfl rfl)

theorem c_impl_validProbe {Fk : List (List Int)} {Fl : List Int} {Fm : Int} {Fn : Option Addr} {Fo : Nat} {Fp : Option Addr} {Fq : Nat} {r : Bool} (h : M.impl_validProbe Fk Fl Fm = some r) :
    Cal2 Tryz.prog 47 [(Sl Fn Fk Fo), (Sl Fp Fl Fq), (I Fm)] [Ch.ro 0 (Sl Fn Fk Fo) Fk, Ch.ro 0 (Sl Fp Fl Fq) Fl] (fun n0 v L => v = (B r) ∧ L = []) := by
 refine cal2 (n := 21) Tryz.func47 rfl rfl rfl rfl ?_
 intro S0 σ0 n0 hn0 H
 unfold M.impl_validProbe at h
 refine c_seq (rg (sa (B false) rfl (w_end (q_then (c_seq (rg (sm (Sl Fn Fk Fo) rfl ?_)))))))
 revert h; refine br fun r1 hx2 h => ?_
 have hc3 := c_impl_ValidCentres (As := Fn) (Au := Fo) hx2
 refine st_call (cx_call hc3 (ent_f hc3.fn rfl) hn0 (H.sel' [0, 0, 1] rfl rfl : Hp S0 σ0 _ ([_] ++ _))) wn ?_
 rintro _ σ4 ⟨_, ⟨rfl, rfl⟩, H, -⟩
 replace H : Hp _ _ _ [_, _] := H
 refine sm (B r1) rfl ?_
 rcases Bool.eq_false_or_eq_true r1 with hb5 | hb5
 ·replace h := bif_t hb5 h
  refine st_g (v := (Sl Fp Fl Fq)) (congrArg some hb5) (rv_move rfl) ?_
  revert h; refine br fun r6 hx7 h => ?_
  have hc8 := c_impl_ValidVector (Ai := Fp) (Aj := Fq) hx7
  refine st_call (cx_call hc8 (ent_f hc8.fn rfl) hn0 (H.sel' [1, 0, 1] rfl rfl : Hp S0 σ0 _ ([_] ++ _))) (wanted_yes rfl (by exact (congrArg some hb5))) ?_
  rintro _ σ9 ⟨_, ⟨rfl, rfl⟩, H, -⟩
  replace H : Hp _ _ _ [_, _] := H
  refine st (v := (B r6)) (rv_pick_t (congrArg B hb5) rfl) (sm (B r6) rfl ?_)
  rcases Bool.eq_false_or_eq_true r6 with hb10 | hb10
  ·replace h := bif_t hb10 h
   refine st_g (v := (I Fm)) (congrArg some hb10) (rv_move rfl) (st_g (v := (B (decide (1 ≤ Fm)))) (congrArg some hb10) (rv_geq (a := Fm) (b := 1) rfl rfl) (st (v := (B (decide (1 ≤ Fm)))) (rv_pick_t (congrArg B hb10) rfl) (sm (B (decide (1 ≤ Fm))) rfl ?_)))
   rcases Bool.eq_false_or_eq_true (decide (1 ≤ Fm)) with hb11 | hb11
   ·replace h := bif_t hb11 h
    refine st_g (v := (I Fm)) (congrArg some hb11) (rv_move rfl) (st_g (v := (B (decide (Fm ≤ 4)))) (congrArg some hb11) (rv_leq (a := Fm) (b := 4) rfl rfl) (st (v := (B (decide (Fm ≤ 4)))) (rv_pick_t (congrArg B hb11) rfl) (sa (B (decide (Fm ≤ 4))) rfl (w_end (q_then (c_ret ?_))))))
    obtain rfl := sj h
    exact fin_ret (v := (B (decide (Fm ≤ 4)))) (results_ok Tryz.results47 (res_tmp (v := (B (decide (Fm ≤ 4)))) rfl res_nil) rfl) ⟨rfl, rfl⟩ (H.sel' [] rfl rfl)
   ·replace h := bif_f hb11 h
    refine st_skip (congrArg some hb11) (st_skip (congrArg some hb11) (st (v := (B false)) (rv_pick_f (congrArg B hb11) rfl) (sa (B false) rfl (w_end (q_then (c_ret ?_))))))
    obtain rfl := sj h
    exact fin_ret (v := (B false)) (results_ok Tryz.results47 (res_tmp (v := (B false)) rfl res_nil) rfl) ⟨rfl, rfl⟩ (H.sel' [] rfl rfl)
  ·replace h := bif_f hb10 h
   refine st_skip (congrArg some hb10) (st_skip (congrArg some hb10) (st (v := (B false)) (rv_pick_f (congrArg B hb10) rfl) (sm (B false) rfl (st_skip rfl (st_skip rfl (st (v := (B false)) (rv_pick_f rfl rfl) (sa (B false) rfl (w_end (q_then (c_ret ?_))))))))))
   obtain rfl := sj h
   exact fin_ret (v := (B false)) (results_ok Tryz.results47 (res_tmp (v := (B false)) rfl res_nil) rfl) ⟨rfl, rfl⟩ (H.sel' [] rfl rfl)
 ·replace h := bif_f hb5 h
  refine st_skip (congrArg some hb5) (st_skip (congrArg some hb5) (st (v := (B false)) (rv_pick_f (congrArg B hb5) rfl) (sm (B false) rfl (st_skip rfl (st_skip rfl (st (v := (B false)) (rv_pick_f rfl rfl) (sm (B false) rfl (st_skip rfl (st_skip rfl (st (v := (B false)) (rv_pick_f rfl rfl) (sa (B false) rfl ?_)))))))))))
  refine w_end (q_then (c_ret ?_))
  obtain rfl := sj h
  exact fin_ret (v := (B false)) (results_ok Tryz.results47 (res_tmp (v := (B false)) rfl res_nil) rfl) ⟨rfl, rfl⟩ (H.sel' [] rfl rfl)

theorem c_impl_validClusters {Fk : List (List Int)} {Fd : List (Int × (List Int) × Int)} {Fn : Option Addr} {Fo : Nat} {Fe : Option Addr} {Ff : Nat} {r : Bool} (h : M.impl_validClusters Fk Fd = some r) :
    Cal2 Tryz.prog 125 [(Sl Fn Fk Fo), (Sl Fe Fd Ff)] [Ch.ro 0 (Sl Fn Fk Fo) Fk, Ch.ro 0 (Sl Fe Fd Ff) Fd] (fun n0 v L => v = (B r) ∧ L = []) := by
 refine cal2 (n := 11) Tryz.func125 rfl rfl rfl rfl ?_
 intro S0 σ0 n0 hn0 H
 unfold M.impl_validClusters at h
 refine c_seq (rg (sa (B false) rfl (w_end (q_then (c_seq (rg (sm (Sl Fn Fk Fo) rfl ?_)))))))
 revert h; refine br fun r1 hx2 h => ?_
 have hc3 := c_impl_ValidCentres (As := Fn) (Au := Fo) hx2
 refine st_call (cx_call hc3 (ent_f hc3.fn rfl) hn0 (H.sel' [0, 0, 1] rfl rfl : Hp S0 σ0 _ ([_] ++ _))) wn ?_
 rintro _ σ4 ⟨_, ⟨rfl, rfl⟩, H, -⟩
 replace H : Hp _ _ _ [_, _] := H
 refine sm (B r1) rfl ?_
 rcases Bool.eq_false_or_eq_true r1 with hb5 | hb5
 ·replace h := bif_t hb5 h
  refine st_g (v := (Sl Fe Fd Ff)) (congrArg some hb5) (rv_move rfl) ?_
  revert h; refine br fun r6 hx7 h => ?_
  have hc8 := c_impl_ValidStore (As := Fe) (Au := Ff) hx7
  refine st_call (cx_call hc8 (ent_f hc8.fn rfl) hn0 (H.sel' [1, 0, 1] rfl rfl : Hp S0 σ0 _ ([_] ++ _))) (wanted_yes rfl (by exact (congrArg some hb5))) ?_
  rintro _ σ9 ⟨_, ⟨rfl, rfl⟩, H, -⟩
  replace H : Hp _ _ _ [_, _] := H
  refine st (v := (B r6)) (rv_pick_t (congrArg B hb5) rfl) (sa (B r6) rfl (w_end (q_then (c_ret ?_))))
  obtain rfl := sj h
  exact fin_ret (v := (B r6)) (results_ok Tryz.results125 (res_tmp (v := (B r6)) rfl res_nil) rfl) ⟨rfl, rfl⟩ (H.sel' [] rfl rfl)
 ·replace h := bif_f hb5 h
  refine st_skip (congrArg some hb5) (st_skip (congrArg some hb5) (st (v := (B false)) (rv_pick_f (congrArg B hb5) rfl) (sa (B false) rfl (w_end (q_then (c_ret ?_))))))
  obtain rfl := sj h
  exact fin_ret (v := (B false)) (results_ok Tryz.results125 (res_tmp (v := (B false)) rfl res_nil) rfl) ⟨rfl, rfl⟩ (H.sel' [] rfl rfl)

theorem c_impl_CentreOf {Fk : List (List Int)} {Fl : List Int} {Fn : Option Addr} {Fo : Nat} {Fp : Option Addr} {Fq : Nat} {r : Int} (h : M.impl_CentreOf Fk Fl = some r) :
    Cal2 Tryz.prog 126 [(Sl Fn Fk Fo), (Sl Fp Fl Fq)] [Ch.ro 0 (Sl Fn Fk Fo) Fk, Ch.ro 0 (Sl Fp Fl Fq) Fl] (fun n0 v L => v = (I r) ∧ L = []) := by
 refine cal2 (n := 35) Tryz.func126 rfl rfl rfl rfl ?_
 intro S0 σ0 n0 hn0 H
 unfold M.impl_CentreOf at h
 refine c_seq (rg (sa (I 0) rfl (w_end (q_then (c_seq (c_seq ?_))))))
 obtain ⟨o1, hj, h'⟩ := bind_some h
 clear h
 refine c_cut (fun e a w => e = .normal ∧ ∃ (ρ : Nat → Value) (σ : St), a = fr 35 (updL ρ [(0, (Sl Fn Fk Fo)), (1, (Sl Fp Fl Fq)), (17, (B o1))]) ∧ w = σ.w ∧ Hp S0 σ0 σ [Ch.ro 0 (Sl Fn Fk Fo) Fk, Ch.ro 0 (Sl Fp Fl Fq) Fl]) ?_ ?_
 ·clear h'
  rename _ = some o1 => h
  refine rg (sm (Sl Fn Fk Fo) rfl ?_)
  revert h; refine br fun r2 hx3 h => ?_
  have hc4 := c_impl_ValidCentres (As := Fn) (Au := Fo) hx3
  refine st_call (cx_call hc4 (ent_f hc4.fn rfl) hn0 (H.sel' [0, 0, 1] rfl rfl : Hp S0 σ0 _ ([_] ++ _))) wn ?_
  rintro _ σ5 ⟨_, ⟨rfl, rfl⟩, H, -⟩
  replace H : Hp _ _ _ [_, _] := H
  refine st (v := (B (!r2))) (rv_not rfl) (sm (B (!r2)) rfl ?_)
  rcases Bool.eq_false_or_eq_true (!r2) with hb6 | hb6
  ·replace h := bif_t hb6 h
   refine st_skip (congrArg some hb6) (st_skip (congrArg some hb6) (st_skip (congrArg some hb6) (st (v := (B true)) (rv_pick_t (congrArg B hb6) rfl) (w_end ?_))))
   obtain rfl := sj h
   exact ⟨rfl, _, σ5, fr_join ⟨rfl, rfl, rfl, trivial⟩, rfl, H.sel' [0, 1] rfl rfl⟩
  ·replace h := bif_f hb6 h
   refine st_g (v := (Sl Fp Fl Fq)) (congrArg some hb6) (rv_move rfl) ?_
   revert h; refine br fun r7 hx8 h => ?_
   have hc9 := c_impl_ValidVector (Ai := Fp) (Aj := Fq) hx8
   refine st_call (cx_call hc9 (ent_f hc9.fn rfl) hn0 (H.sel' [1, 0, 1] rfl rfl : Hp S0 σ0 _ ([_] ++ _))) (wanted_yes rfl (by exact (congrArg some hb6))) ?_
   rintro _ σ10 ⟨_, ⟨rfl, rfl⟩, H, -⟩
   replace H : Hp _ _ _ [_, _] := H
   refine st_g (v := (B (!r7))) (congrArg some hb6) (rv_not rfl) (st (v := (B (!r7))) (rv_pick_f (congrArg B hb6) rfl) (w_end ?_))
   obtain rfl := sj h
   exact ⟨rfl, _, σ10, fr_join ⟨rfl, rfl, rfl, trivial⟩, rfl, H.sel' [0, 1] rfl rfl⟩
 ·clear hj
  have h := h'
  clear h' H
  rintro e a w ⟨rfl, ρ, σ11, rfl, rfl, H⟩
  refine q_then ?_
  refine cd_cond o1 rfl (fun hb12 => ?_) (fun hb12 => ?_)
  ·replace h := bif_t hb12 h
   refine c_seq (rg (sa (I (-1)) rfl (w_end (q_then (c_ret (q_then_r ?_))))))
   obtain rfl := sj h
   exact fin_ret (v := (I (-1))) (results_ok Tryz.results126 (res_tmp (v := (I (-1))) rfl res_nil) rfl) ⟨rfl, rfl⟩ (H.sel' [] rfl rfl)
  ·replace h := bif_f hb12 h
   refine c_skip (q_then (c_seq (rg (sa (I 0) rfl (sa (I 1000000) rfl (w_end (q_then (c_seq (c_seq (rg (sm (Sl Fn Fk Fo) rfl ?_)))))))))))
   refine st (v := (I (Fk.length : Int))) (rv_len Tryz.underlying32 rfl) (sm (I 0) rfl (w_end (q_then ?_)))
   obtain ⟨o13, hj, h'⟩ := bind_some h
   clear h
   refine c_cut (fun e a w => e = .normal ∧ ∃ (ρ : Nat → Value) (σ : St), a = fr 35 (updL ρ [(5, (I o13))]) ∧ w = σ.w ∧ Hp S0 σ0 σ []) ?_ ?_
   ·clear h'
    rename _ = some o13 => h
    refine c_blk (wp_loopM _ h (fun s14 a w => ∃ (ρ : Nat → Value) (σ : St), a = fr 35 (updL ρ [(1, (Sl Fp Fl Fq)), (5, (I s14.1)), (6, (I s14.2.1)), (18, (Sl Fn Fk Fo)), (19, (I (Fk.length : Int))), (20, (I s14.2.2))]) ∧ w = σ.w ∧ Hp S0 σ0 σ [Ch.ro 0 (Sl Fp Fl Fq) Fl, Ch.ro 0 (Sl Fn Fk Fo) Fk]) ⟨_, σ11, fr_join ⟨rfl, rfl, rfl, rfl, rfl, rfl, trivial⟩, rfl, H.sel' [1, 0] rfl rfl⟩ ?_)
    clear h H
    rintro s14 a w o ⟨ρ, σ15, rfl, rfl, H⟩ h hres
    refine c_seq (rg (st (v := (B (decide (s14.2.2 < (Fk.length : Int))))) (rv_lss (a := s14.2.2) (b := (Fk.length : Int)) rfl rfl) (w_end (q_then (c_seq ?_)))))
    refine cd_cond (decide (s14.2.2 < (Fk.length : Int))) rfl (fun hb16 => ?_) (fun hb16 => ?_)
    ·replace h := bif_t hb16 h
     refine c_skip (q_then (c_seq ?_))
     obtain ⟨o17, hj, h'⟩ := bind_some h
     clear h
     refine c_cut (fun e a w => e = .normal ∧ ∃ (ρ : Nat → Value) (σ : St), a = fr 35 (updL ρ [(1, (Sl Fp Fl Fq)), (5, (I o17.1)), (6, (I o17.2)), (18, (Sl Fn Fk Fo)), (19, (I (Fk.length : Int))), (20, (I s14.2.2))]) ∧ w = σ.w ∧ Hp S0 σ0 σ [Ch.ro 0 (Sl Fp Fl Fq) Fl, Ch.ro 0 (Sl Fn Fk Fo) Fk]) ?_ ?_
     ·clear h'
      rename _ = some o17 => h
      refine c_blk (c_seq (rg (sm (I s14.2.2) rfl ?_)))
      revert h; refine br fun x18 hx19 h => ?_
      obtain ⟨b21, o22, hi20, -⟩ := (H.ro 1 rfl).ix hx19
      refine st (v := (pt b21 o22)) (rv_ix Tryz.underlying32 ti24 rfl rfl hi20) ?_
      obtain ⟨v26, hc27, hR25⟩ := ((H.ro 1 rfl).at hx19 hi20).slice
      obtain ⟨a23, c24, rfl⟩ := hR25.isSl
      replace H := H.add (d := Ch.ro 0 (Sl a23 x18 c24) x18) hR25 (fun _ h => h)
      clear hR25
      refine st (v := (Sl a23 x18 c24)) (rv_load1 Tryz.underlying24 rfl rfl hc27) (sa (I s14.2.2) rfl (sa (Sl a23 x18 c24) rfl (w_end (q_then (c_seq (rg (sm (Sl a23 x18 c24) rfl (sm (Sl Fp Fl Fq) rfl ?_))))))))
      revert h; refine br fun r28 hx29 h => ?_
      have hc30 := c_impl_Distance (Ec := a23) (Ed := c24) (Ee := Fp) (Ef := Fq) hx29
      refine st_call (cx_call hc30 (ent_f hc30.fn rfl) hn0 (H.sel' [0, 1, 0, 1, 2] rfl rfl : Hp S0 σ0 _ ([_, _] ++ _))) wn ?_
      rintro _ σ31 ⟨_, ⟨rfl, rfl⟩, H, -⟩
      replace H : Hp _ _ _ [_, _, _] := H
      refine sa (I r28) rfl (w_end (q_then (c_seq (rg (sm (I r28) rfl (sm (I s14.2.1) rfl (st (v := (B (decide (r28 < s14.2.1)))) (rv_lss (a := r28) (b := s14.2.1) rfl rfl) (w_end (q_then ?_)))))))))
      refine cd_cond (decide (r28 < s14.2.1)) rfl (fun hb32 => ?_) (fun hb32 => ?_)
      ·replace h := bif_t hb32 h
       refine rg (sm (I s14.2.2) rfl (sm (I r28) rfl (sa (I s14.2.2) rfl (sa (I r28) rfl (w_end (q_blk ?_))))))
       obtain rfl := sj h
       exact ⟨rfl, _, σ31, fr_join ⟨rfl, rfl, rfl, rfl, rfl, rfl, trivial⟩, rfl, H.sel' [1, 2] rfl rfl⟩
      ·replace h := bif_f hb32 h
       refine c_skip (q_blk ?_)
       obtain rfl := sj h
       exact ⟨rfl, _, σ31, fr_join ⟨rfl, rfl, rfl, rfl, rfl, rfl, trivial⟩, rfl, H.sel' [1, 2] rfl rfl⟩
     ·clear hj
      have h := h'
      clear h' H
      rintro e a w ⟨rfl, ρ, σ33, rfl, rfl, H⟩
      refine q_then (rg (st (v := (I (w64 (s14.2.2 + 1)))) (rv_add (a := s14.2.2) (b := 1) rfl rfl) (sm (I (w64 (s14.2.2 + 1))) rfl (w_end (q_then ?_)))))
      obtain rfl := sj h
      exact ⟨_, rfl, _, σ33, fr_join ⟨rfl, rfl, rfl, rfl, rfl, rfl, trivial⟩, rfl, H.sel' [0, 1] rfl rfl⟩
    ·replace h := bif_f hb16 h
     refine c_exit (q_then_x (q_then_x (q_blk_hit ?_)))
     obtain rfl := sj h
     obtain rfl := hres _ rfl
     exact ⟨rfl, _, σ15, fr_join ⟨rfl, trivial⟩, rfl, H.sel' [] rfl rfl⟩
   ·clear hj
    have h := h'
    clear h' H
    rintro e a w ⟨rfl, ρ, σ34, rfl, rfl, H⟩
    refine q_then (c_seq (rg (sm (I o13) rfl (sa (I o13) rfl (w_end (q_then (c_ret ?_)))))))
    obtain rfl := sj h
    exact fin_ret (v := (I o13)) (results_ok Tryz.results126 (res_tmp (v := (I o13)) rfl res_nil) rfl) ⟨rfl, rfl⟩ (H.sel' [] rfl rfl)

theorem c_impl_AssignItems {Fk : List (List Int)} {Fd : List (Int × (List Int) × Int)} {Fn : Option Addr} {Fo : Nat} {Fe : Option Addr} {Ff : Nat} {r : (List Int)} (h : M.impl_AssignItems Fk Fd = some r) :
    Cal2 Tryz.prog 109 [(Sl Fn Fk Fo), (Sl Fe Fd Ff)] [Ch.ro 0 (Sl Fn Fk Fo) Fk, Ch.ro 0 (Sl Fe Fd Ff) Fd] (fun n0 v L => ∃ (az1 : Option Addr), ∃ (cz2 : Nat), v = (Sl az1 r cz2) ∧ L = [Ch.own n0 n0 (Sl az1 r cz2) r] ∧ cz2 = r.length) := by
 refine cal2 (n := 31) Tryz.func109 rfl rfl rfl rfl ?_
 intro S0 σ0 n0 hn0 H
 unfold M.impl_AssignItems at h
 refine c_seq (rg (sa (.slice none 0 0) rfl (w_end (q_then (c_seq (c_seq (rg (sm (Sl Fn Fk Fo) rfl (sm (Sl Fe Fd Ff) rfl ?_)))))))))
 revert h; refine br fun r1 hx2 h => ?_
 have hc3 := c_impl_validClusters (Fn := Fn) (Fo := Fo) (Fe := Fe) (Ff := Ff) hx2
 refine st_call (cx_call hc3 (ent_f hc3.fn rfl) hn0 (H.sel' [0, 1, 0, 1] rfl rfl : Hp S0 σ0 _ ([_, _] ++ _))) wn ?_
 rintro _ σ4 ⟨_, ⟨rfl, rfl⟩, H, -⟩
 replace H : Hp _ _ _ [_, _] := H
 refine st (v := (B (!r1))) (rv_not rfl) (w_end (q_then ?_))
 refine cd_cond (!r1) rfl (fun hb5 => ?_) (fun hb5 => ?_)
 ·replace h := bif_t hb5 h
  refine c_seq (rg (sa (.slice none 0 0) rfl (w_end (q_then (c_ret (q_then_r ?_))))))
  replace H := H.nilOwn Int n0 n0
  obtain rfl := sj h
  exact fin_ret (v := (.slice none 0 0)) (results_ok Tryz.results109 (res_tmp (v := (.slice none 0 0)) rfl res_nil) rfl) ⟨none, 0, rfl, rfl, rfl⟩ (H.sel' [0] rfl rfl)
 ·replace h := bif_f hb5 h
  refine c_skip (q_then (c_seq (rg (sm (Sl Fe Fd Ff) rfl (st (v := (I (Fd.length : Int))) (rv_len Tryz.underlying23 rfl) ?_)))))
  revert h; refine br fun xs6 hx7 h => ?_
  refine st_ex (ex_make (el := n0) (z0 := (0 : Int)) (zs := [(I 0)]) H hn0 Tryz.underlying24 ti3 rfl rfl rfl (by decide) hx7 rfl rfl) wn ?_
  rintro _ σ11 ⟨b8, c9, rfl, ht10, H, -⟩
  replace ht10 := ht10.trans (gmake_len hx7).symm
  refine sa (Sl (some ⟨b8, 0, none⟩) xs6 c9) rfl (w_end (q_then (c_seq (c_seq (rg (sm (Sl Fe Fd Ff) rfl (st (v := (I (Fd.length : Int))) (rv_len Tryz.underlying23 rfl) (sm (I 0) rfl (w_end (q_then ?_))))))))))
  obtain ⟨o12, hj, h'⟩ := bind_some h
  clear h
  refine c_cut (fun e a w => e = .normal ∧ ∃ (ρ : Nat → Value) (σ : St), a = fr 31 (updL ρ [(5, (Sl (some ⟨b8, 0, none⟩) o12 c9))]) ∧ w = σ.w ∧ Hp S0 σ0 σ [Ch.own n0 n0 (Sl (some ⟨b8, 0, none⟩) o12 c9) o12] ∧ c9 = o12.length ∧ o12.length = xs6.length) ?_ ?_
  ·clear h'
   rename _ = some o12 => h
   refine c_blk (wp_loopM _ h (fun s13 a w => ∃ (ρ : Nat → Value) (σ : St), a = fr 31 (updL ρ [(0, (Sl Fn Fk Fo)), (5, (Sl (some ⟨b8, 0, none⟩) s13.1 c9)), (15, (Sl Fe Fd Ff)), (16, (I (Fd.length : Int))), (17, (I s13.2))]) ∧ w = σ.w ∧ Hp S0 σ0 σ [Ch.ro 0 (Sl Fn Fk Fo) Fk, Ch.own n0 n0 (Sl (some ⟨b8, 0, none⟩) s13.1 c9) s13.1, Ch.ro 0 (Sl Fe Fd Ff) Fd] ∧ c9 = s13.1.length ∧ s13.1.length = xs6.length) ⟨_, σ11, fr_join ⟨rfl, rfl, rfl, rfl, rfl, trivial⟩, rfl, H.sel' [1, 0, 2] rfl rfl, ht10, rfl⟩ ?_)
   clear h H
   rintro s13 a w o ⟨ρ, σ14, rfl, rfl, H, ht15, hn16⟩ h hres
   refine c_seq (rg (st (v := (B (decide (s13.2 < (Fd.length : Int))))) (rv_lss (a := s13.2) (b := (Fd.length : Int)) rfl rfl) (w_end (q_then (c_seq ?_)))))
   refine cd_cond (decide (s13.2 < (Fd.length : Int))) rfl (fun hb17 => ?_) (fun hb17 => ?_)
   ·replace h := bif_t hb17 h
    refine c_skip (q_then (c_seq (c_blk (c_seq (rg (sm (I s13.2) rfl ?_))))))
    revert h; refine br fun x18 hx19 h => ?_
    obtain ⟨b21, o22, hi20, -⟩ := (H.ro 2 rfl).ix hx19
    refine st (v := (pt b21 o22)) (rv_ix Tryz.underlying23 ti79 rfl rfl hi20) ?_
    obtain ⟨_, ⟨_, _, rfl, rfl, ⟨_, _, rfl, ⟨_, rfl, hR27⟩, rfl⟩⟩, hl23, hc24⟩ := ((H.ro 2 rfl).at hx19 hi20).cells
    obtain ⟨a25, c26, rfl⟩ := hR27.isSl
    replace H := H.add (d := Ch.ro 0 (Sl a25 x18.2.1 c26) x18.2.1) hR27 (fun _ h => h)
    clear hR27
    refine st (v := (.agg #[(I x18.1), (Sl a25 x18.2.1 c26), (I x18.2.2)])) (rv_load Tryz.underlying79 rfl ti79 rfl hl23 hc24) (st_ex (ex_alloc (cs := [(I 0), (.slice none 0 0), (I 0)]) H hn0 ti79 rfl) wn ?_)
    rintro _ σ29 ⟨b28, rfl, H, -⟩
    refine sa (I s13.2) rfl ?_
    refine st_exS (ex_store_box (k := 0) (cs := [(I 0), (.slice none 0 0), (I 0)]) (vs := [(I x18.1), (Sl a25 x18.2.1 c26), (I x18.2.2)]) (cs' := [(I x18.1), (Sl a25 x18.2.1 c26), (I x18.2.2)]) H (i := 0) rfl ti79 rfl rfl rfl rfl rfl (Nat.le_of_ble_eq_true rfl) (by simp [plain]) rfl) wn ?_
    rintro σ30 ⟨H, -⟩
    refine w_end (q_then (rg (sm (Sl (some ⟨b8, 0, none⟩) s13.1 c9) rfl (sm (I s13.2) rfl (sm (Sl Fn Fk Fo) rfl (st (v := (pt b28 1)) (rv_fieldAddr (off := 1) (ft := 24) Tryz.underlying79 rfl ti24 rfl rfl) ?_))))))
    have hc31 := H.cell (u := (Sl a25 x18.2.1 c26)) (o' := 1) 0 1 rfl rfl rfl
    refine st (v := (Sl a25 x18.2.1 c26)) (rv_load1 Tryz.underlying24 rfl rfl hc31) ?_
    revert h; refine br fun r32 hx33 h => ?_
    have hc34 := c_impl_CentreOf (Fn := Fn) (Fo := Fo) (Fp := a25) (Fq := c26) hx33
    refine st_call (cx_call hc34 (ent_f hc34.fn rfl) hn0 (H.sel' [2, 1, 0, 1, 2, 3, 4] rfl rfl : Hp S0 σ0 _ ([_, _] ++ _))) wn ?_
    rintro _ σ35 ⟨_, ⟨rfl, rfl⟩, H, -⟩
    replace H : Hp _ _ _ [_, _, _, _, _] := H
    revert h; refine br fun x36 hx37 h => ?_
    obtain ⟨b39, o40, hi38, -⟩ := (H.own 3 rfl).ix hx37
    refine st (v := (pt b39 o40)) (rv_ix Tryz.underlying24 ti3 rfl rfl hi38) ?_
    refine st_exS (ex_store_own (e' := r32) (vs := [(I r32)]) (k := 0) H (i := 3) rfl ti3 hx37 hi38 rfl rfl rfl rfl rfl (Nat.le_of_ble_eq_true rfl) (by simp [plain]) (by rintro _ rfl; exact rfl)) wn ?_
    rintro σ41 ⟨H, -⟩
    have hsl : (Sl (some ⟨b8, 0, none⟩) s13.1 c9) = (Sl (some ⟨b8, 0, none⟩) (s13.1.set s13.2.toNat r32) c9) := sl_len List.length_set.symm
    rw [hsl]; rw [hsl] at H; clear hsl
    refine w_end (q_blk (q_then (rg (st (v := (I (w64 (s13.2 + 1)))) (rv_add (a := s13.2) (b := 1) rfl rfl) (sm (I (w64 (s13.2 + 1))) rfl (w_end (q_then ?_)))))))
    obtain rfl := sj h
    exact ⟨_, rfl, _, σ41, fr_join ⟨rfl, rfl, rfl, rfl, rfl, trivial⟩, rfl, H.sel' [3, 0, 4] rfl rfl, (ht15.trans List.length_set.symm), (List.length_set.trans hn16)⟩
   ·replace h := bif_f hb17 h
    refine c_exit (q_then_x (q_then_x (q_blk_hit ?_)))
    obtain rfl := sj h
    obtain rfl := hres _ rfl
    exact ⟨rfl, _, σ14, fr_join ⟨rfl, trivial⟩, rfl, H.sel' [1] rfl rfl, ht15, hn16⟩
  ·clear hj
   have h := h'
   clear h' H
   rintro e a w ⟨rfl, ρ, σ42, rfl, rfl, H, ht43, hn44⟩
   refine q_then (c_seq (rg (sm (Sl (some ⟨b8, 0, none⟩) o12 c9) rfl (sa (Sl (some ⟨b8, 0, none⟩) o12 c9) rfl (w_end (q_then (c_ret ?_)))))))
   obtain rfl := sj h
   exact fin_ret (v := (Sl (some ⟨b8, 0, none⟩) o12 c9)) (results_ok Tryz.results109 (res_tmp (v := (Sl (some ⟨b8, 0, none⟩) o12 c9)) rfl res_nil) rfl) ⟨(some ⟨b8, 0, none⟩), c9, rfl, rfl, ht43⟩ (H.sel' [0] rfl rfl)

theorem c_impl_itemsByCentre {Fk : List (List Int)} {Fd : List (Int × (List Int) × Int)} {Fn : Option Addr} {Fo : Nat} {Fe : Option Addr} {Ff : Nat} {r : (List (Int × (List (Int × (List Int) × Int))))} (h : M.impl_itemsByCentre Fk Fd = some r) :
    Cal2 Tryz.prog 83 [(Sl Fn Fk Fo), (Sl Fe Fd Ff)] [Ch.ro 0 (Sl Fn Fk Fo) Fk, Ch.ro 0 (Sl Fe Fd Ff) Fd] (fun n0 v L => ∃ (bz1 : Nat), ∃ (Kz2 : List Ch), v = (.map (some bz1)) ∧ L = [Ch.big Kz2] ∧ Mp n0 0 bz1 r Kz2) := by
 refine cal2 (n := 31) Tryz.func83 rfl rfl rfl rfl ?_
 intro S0 σ0 n0 hn0 H
 unfold M.impl_itemsByCentre at h
 refine c_seq (rg (sa (.map none) rfl (w_end (q_then (c_seq (rg (st_ex (ex_makeMap (lo := n0) (Int × (List Int) × Int) 0 H hn0) wn ?_)))))))
 rintro _ σ4 ⟨b1, K2, rfl, hK3, H, -⟩
 refine sa (.map (some b1)) rfl (w_end (q_then (c_seq (c_seq (rg (sm (Sl Fn Fk Fo) rfl (sm (Sl Fe Fd Ff) rfl ?_)))))))
 revert h; refine br fun r5 hx6 h => ?_
 have hc7 := c_impl_AssignItems (Fn := Fn) (Fo := Fo) (Fe := Fe) (Ff := Ff) hx6
 refine st_call (cx_call hc7 (ent_f hc7.fn rfl) hn0 (H.sel' [1, 2, 0, 1, 2] rfl rfl : Hp S0 σ0 _ ([_, _] ++ _))) wn ?_
 rintro _ σ11 ⟨_, ⟨a8, c9, rfl, rfl, ht10⟩, H, -⟩
 replace H : Hp _ _ _ [_, _, _, _] := H
 refine st (v := (I (r5.length : Int))) (rv_len Tryz.underlying24 rfl) (sm (I 0) rfl (w_end (q_then ?_)))
 obtain ⟨o12, hj, h'⟩ := bind_some h
 clear h
 refine c_cut (fun e a w => e = .normal ∧ ∃ (ρ : Nat → Value) (σ : St) (bj1 : Nat) (Kj2 : List Ch), a = fr 31 (updL ρ [(5, (.map (some bj1)))]) ∧ w = σ.w ∧ Hp S0 σ0 σ [Ch.big Kj2] ∧ Mp n0 0 bj1 o12 Kj2) ?_ ?_
 ·clear h'
  rename _ = some o12 => h
  refine c_blk (wp_loopM _ h (fun s13 a w => ∃ (ρ : Nat → Value) (σ : St) (bj1 : Nat) (Kj2 : List Ch), a = fr 31 (updL ρ [(1, (Sl Fe Fd Ff)), (5, (.map (some bj1))), (11, (Sl a8 r5 c9)), (12, (I (r5.length : Int))), (13, (I s13.2))]) ∧ w = σ.w ∧ Hp S0 σ0 σ [Ch.ro 0 (Sl Fe Fd Ff) Fd, Ch.big Kj2, Ch.own n0 n0 (Sl a8 r5 c9) r5] ∧ Mp n0 0 bj1 s13.1 Kj2) ⟨_, σ11, b1, K2, fr_join ⟨rfl, rfl, rfl, rfl, rfl, trivial⟩, rfl, H.sel' [3, 1, 0] rfl rfl, hK3⟩ ?_)
  clear h H
  rintro s13 a w o ⟨ρ, σ14, b15, K16, rfl, rfl, H, hK17⟩ h hres
  refine c_seq (rg (st (v := (B (decide (s13.2 < (r5.length : Int))))) (rv_lss (a := s13.2) (b := (r5.length : Int)) rfl rfl) (w_end (q_then (c_seq ?_)))))
  refine cd_cond (decide (s13.2 < (r5.length : Int))) rfl (fun hb18 => ?_) (fun hb18 => ?_)
  ·replace h := bif_t hb18 h
   refine c_skip (q_then (c_seq (c_blk (c_seq (rg (sm (I s13.2) rfl ?_))))))
   revert h; refine br fun x19 hx20 h => ?_
   obtain ⟨b22, o23, hi21, -⟩ := (H.own 2 rfl).ix hx20
   refine st (v := (pt b22 o23)) (rv_ix Tryz.underlying24 ti3 rfl rfl hi21) ?_
   have hc24 := ((H.own 2 rfl).at hx20 hi21).int
   refine st (v := (I x19)) (rv_load1 Tryz.underlying3 rfl rfl hc24) (sa (I s13.2) rfl (sa (I x19) rfl (w_end (q_then ?_))))
   obtain ⟨v28, K29, H, hK30⟩ := H.mpOut x19 1 rfl hK17
   obtain ⟨a25, c26, rfl⟩ := (H.own 0 rfl).isSl
   have hL27 := hK30.look H 1 rfl
   revert h; refine br fun x31 hx32 h => ?_
   obtain ⟨b34, o35, hi33, -⟩ := (H.ro 2 rfl).ix hx32
   obtain ⟨_, ⟨_, _, rfl, rfl, ⟨_, _, rfl, ⟨_, rfl, hR40⟩, rfl⟩⟩, hl36, hc37⟩ := ((H.ro 2 rfl).at hx32 hi33).cells
   obtain ⟨a38, c39, rfl⟩ := hR40.isSl
   replace H := H.add (d := Ch.ro 0 (Sl a38 x31.2.1 c39) x31.2.1) hR40 (fun _ h => h)
   clear hR40
   revert h; refine br fun xs42 hx43 h => ?_
   have Hs := H
   refine rg2 (σ := σ14) (Nm := (Nat) × (Option Addr) × (Nat)) 11 [9, 10] [[false, false], [true, false], [true, true]] [[(0, 0), (1, 1), (2, 2)], [(0, 0), (1, 1), (2, 2)], [(0, 0), (1, 1)], [(0, 0), (1, 1)], [(0, 0), (1, 1)], [(0, 0)], [(0, 0)], [(0, 0)], [(0, 0)], [(0, 1)], [(1, 2)]] 2 [fun ((b41, a44, c45) : (Nat) × (Option Addr) × (Nat)) => fun σm => Hp S0 σ0 σm [Ch.ro 0 (Sl a38 x31.2.1 c39) x31.2.1, Ch.own n0 0 (Sl a25 (mget s13.1 x19) c26) (mget s13.1 x19), Ch.big K29, Ch.ro 0 (Sl Fe Fd Ff) Fd, Ch.own n0 n0 (Sl a8 r5 c9) r5] ∧ Md (cov []) σ14 σm, fun ((b41, a44, c45) : (Nat) × (Option Addr) × (Nat)) => fun σm => Hp S0 σ0 σm [Ch.own n0 0 (Sl (some ⟨b41, 0, none⟩) ([(x31.1, x31.2.1, x31.2.2)] : List (Int × (List Int) × Int)) 1) ([(x31.1, x31.2.1, x31.2.2)] : List (Int × (List Int) × Int)), Ch.ro 0 (Sl a38 x31.2.1 c39) x31.2.1, Ch.own n0 0 (Sl a25 (mget s13.1 x19) c26) (mget s13.1 x19), Ch.big K29, Ch.ro 0 (Sl Fe Fd Ff) Fd, Ch.own n0 n0 (Sl a8 r5 c9) r5] ∧ Md (cov []) σ14 σm, fun ((b41, a44, c45) : (Nat) × (Option Addr) × (Nat)) => fun σm => Hp S0 σ0 σm [Ch.own n0 0 (Sl a44 xs42 c45) xs42, Ch.own n0 0 (Sl (some ⟨b41, 0, none⟩) ([(x31.1, x31.2.1, x31.2.2)] : List (Int × (List Int) × Int)) 1) ([(x31.1, x31.2.1, x31.2.2)] : List (Int × (List Int) × Int)), Ch.ro 0 (Sl a38 x31.2.1 c39) x31.2.1, Ch.big K29, Ch.ro 0 (Sl Fe Fd Ff) Fd, Ch.own n0 n0 (Sl a8 r5 c9) r5] ∧ Md (fun i => (cov []) i ∨ (fun b => blk (Sl a25 (mget s13.1 x19) c26) = some b) i) σ14 σm] [fun ((b41, a44, c45) : (Nat) × (Option Addr) × (Nat)) => (.map (some b15)), fun ((b41, a44, c45) : (Nat) × (Option Addr) × (Nat)) => (I x19), fun ((b41, a44, c45) : (Nat) × (Option Addr) × (Nat)) => (.map (some b15)), fun ((b41, a44, c45) : (Nat) × (Option Addr) × (Nat)) => (I x19), fun ((b41, a44, c45) : (Nat) × (Option Addr) × (Nat)) => (Sl a25 (mget s13.1 x19) c26), fun ((b41, a44, c45) : (Nat) × (Option Addr) × (Nat)) => (Sl Fe Fd Ff), fun ((b41, a44, c45) : (Nat) × (Option Addr) × (Nat)) => (I s13.2), fun ((b41, a44, c45) : (Nat) × (Option Addr) × (Nat)) => (pt b34 o35), fun ((b41, a44, c45) : (Nat) × (Option Addr) × (Nat)) => (.agg #[(I x31.1), (Sl a38 x31.2.1 c39), (I x31.2.2)]), fun ((b41, a44, c45) : (Nat) × (Option Addr) × (Nat)) => (Sl (some ⟨b41, 0, none⟩) ([(x31.1, x31.2.1, x31.2.2)] : List (Int × (List Int) × Int)) 1), fun ((b41, a44, c45) : (Nat) × (Option Addr) × (Nat)) => (Sl a44 xs42 c45)] (0, none, 0) (by kernel_rfl) (by kernel_rfl) ?_ ?_ ?_
   ·intro σm m0
    exact ⟨H.grow (m0.mono fun _ h => h.elim), m0⟩
   ·refine ac rfl (by
      intro k; rintro ⟨b41, a44, c45⟩ ρ σm hJ hoff hdep
      have e5 := look_off (N := 31) (hoff 5 rfl) rfl
      exact dp_v (v := (.map (some b15))) wn (rv_move e5) rfl hJ) ?_
    refine ac rfl (by
      intro k; rintro ⟨b41, a44, c45⟩ ρ σm hJ hoff hdep
      have e7 := look_off (N := 31) (hoff 7 rfl) rfl
      exact dp_v (v := (I x19)) wn (rv_move e7) rfl hJ) ?_
    refine ac rfl (by
      intro k; rintro ⟨b41, a44, c45⟩ ρ σm hJ hoff hdep
      have e5 := look_off (N := 31) (hoff 5 rfl) rfl
      exact dp_v (v := (.map (some b15))) wn (rv_move e5) rfl hJ) ?_
    refine ac rfl (by
      intro k; rintro ⟨b41, a44, c45⟩ ρ σm hJ hoff hdep
      have e7 := look_off (N := 31) (hoff 7 rfl) rfl
      exact dp_v (v := (I x19)) wn (rv_move e7) rfl hJ) ?_
    refine all_cons (by
      refine ⟨?_, ?_⟩
      ·rintro ⟨b41, a44, c45⟩ ρ σm hJ hoff hdep
       have e20 := hdep 2 rfl rfl 20 rfl
       have e21 := hdep 3 rfl rfl 21 rfl
       obtain ⟨H, m⟩ := id hJ
       have hL27 := hK30.look H 2 rfl
       exact dp_v (v := (Sl a25 (mget s13.1 x19) c26)) wn (rv_lookup Tryz.underlying113 Tryz.underlying3 ti23 e20 e21 hL27) rfl hJ
      refine ⟨?_, ?_⟩
      ·rintro ⟨b41, a44, c45⟩ ρ σm hJ hoff hdep
       have e20 := hdep 2 rfl rfl 20 rfl
       have e21 := hdep 3 rfl rfl 21 rfl
       obtain ⟨H, m⟩ := id hJ
       have hL27 := hK30.look H 3 rfl
       exact dp_v (v := (Sl a25 (mget s13.1 x19) c26)) wn (rv_lookup Tryz.underlying113 Tryz.underlying3 ti23 e20 e21 hL27) rfl hJ
      trivial) ?_
    refine ac rfl (by
      intro k; rintro ⟨b41, a44, c45⟩ ρ σm hJ hoff hdep
      have e1 := look_off (N := 31) (hoff 1 rfl) rfl
      exact dp_v (v := (Sl Fe Fd Ff)) wn (rv_move e1) rfl hJ) ?_
    refine ac rfl (by
      intro k; rintro ⟨b41, a44, c45⟩ ρ σm hJ hoff hdep
      have e6 := look_off (N := 31) (hoff 6 rfl) rfl
      exact dp_v (v := (I s13.2)) wn (rv_move e6) rfl hJ) ?_
    refine ac rfl (by
      intro k; rintro ⟨b41, a44, c45⟩ ρ σm hJ hoff hdep
      have e23 := hdep 5 rfl rfl 23 rfl
      have e24 := hdep 6 rfl rfl 24 rfl
      exact dp_v (v := (pt b34 o35)) wn (rv_ix Tryz.underlying23 ti79 e23 e24 hi33) rfl hJ) ?_
    refine all_cons (by
      refine ⟨?_, ?_⟩
      ·rintro ⟨b41, a44, c45⟩ ρ σm hJ hoff hdep
       have e25 := hdep 7 rfl rfl 25 rfl
       obtain ⟨H, m⟩ := id hJ
       replace hc37 := fun j hj => (Hs.ro 3 rfl).hmd hx32 hi33 (k := j) (Nat.lt_of_lt_of_eq hj hl36) (hc37 j hj) m
       exact dp_v (v := (.agg #[(I x31.1), (Sl a38 x31.2.1 c39), (I x31.2.2)])) wn (rv_load Tryz.underlying79 rfl ti79 e25 hl36 hc37) rfl hJ
      trivial) ?_
    refine all_cons (by
      refine ⟨?_, ?_⟩
      ·rintro ⟨b41, a44, c45⟩ ρ σm hJ hoff hdep
       have e26 : look 31 ρ 26 = (.agg #[(I x31.1), (Sl a38 x31.2.1 c39), (I x31.2.2)]) := hdep 8 rfl rfl 26 rfl
       obtain ⟨H, m⟩ := id hJ
       refine dp_ex wn (ex_buildSlice (el := 0) (xs := ([(x31.1, x31.2.1, x31.2.2)] : List (Int × (List Int) × Int))) (ps := [(0, (.agg #[(I x31.1), (Sl a38 x31.2.1 c39), (I x31.2.2)]))]) (cs := [(I x31.1), (Sl a38 x31.2.1 c39), (I x31.2.2)]) H hn0 Tryz.underlying23 ti79 rfl (by show [(0, look 31 ρ 26)] = _; rw [e26]) (by kernel_rfl) (.cons (c := [(I x31.1), (Sl a38 x31.2.1 c39), (I x31.2.2)]) ⟨[(I x31.1)], [(Sl a38 x31.2.1 c39), (I x31.2.2)], rfl, rfl, ⟨[(Sl a38 x31.2.1 c39)], [(I x31.2.2)], rfl, ⟨_, rfl, (H.ro 0 rfl)⟩, rfl⟩⟩ (.nil)) rfl) ?_
       rintro _ σq ⟨b41x, rfl, H2, m2⟩
       exact ⟨_, (b41x, a44, c45), rfl, rfl, ⟨H2.sel' [0, 1, 2, 3, 4, 5] rfl rfl, m.comp0 m2⟩, stab [0, 1, 2, 3, 4, 5, 6, 7, 8] (by kernel_rfl) ⟨rfl, rfl, rfl, rfl, rfl, rfl, rfl, rfl, rfl, trivial⟩⟩
      trivial) ?_
    refine all_cons (by
      refine ⟨?_, ?_⟩
      ·rintro ⟨b41, a44, c45⟩ ρ σm hJ hoff hdep
       have e22 := hdep 4 rfl rfl 22 rfl
       have e27 := hdep 9 rfl rfl 27 rfl
       obtain ⟨H, m⟩ := id hJ
       refine dp_ex wn (ex_append H (i := 2) rfl Tryz.underlying23 Tryz.underlying23 ti79 rfl rfl (by decide) (H.own 0 rfl).rd hx43 hn0 e22 e27) ?_
       rintro _ σq ⟨a44x, c45x, rfl, H2, m2⟩
       exact ⟨_, (b41, a44x, c45x), rfl, rfl, ⟨H2.sel' [0, 1, 2, 3, 4, 5] rfl rfl, m.comp m2⟩, stab [0, 1, 2, 3, 4, 5, 6, 7, 8, 9] (by kernel_rfl) ⟨rfl, rfl, rfl, rfl, rfl, rfl, rfl, rfl, rfl, rfl, trivial⟩⟩
      trivial) ?_
    exact all_nil
   ·rintro ⟨b41, a44, c45⟩ ρ σ46 hJ hoff hrel
    have e1 := look_off (N := 31) (hoff 1 rfl) rfl
    have e5 := look_off (N := 31) (hoff 5 rfl) rfl
    have e11 := look_off (N := 31) (hoff 11 rfl) rfl
    have e12 := look_off (N := 31) (hoff 12 rfl) rfl
    have e13 := look_off (N := 31) (hoff 13 rfl) rfl
    have e18 := hrel 0 rfl 18 rfl
    have e19 := hrel 1 rfl 19 rfl
    have e28 := hrel 10 rfl 28 rfl
    obtain ⟨H, -⟩ := (show Hp S0 σ0 σ46 [Ch.own n0 0 (Sl a44 xs42 c45) xs42, Ch.own n0 0 (Sl (some ⟨b41, 0, none⟩) ([(x31.1, x31.2.1, x31.2.2)] : List (Int × (List Int) × Int)) 1) ([(x31.1, x31.2.1, x31.2.2)] : List (Int × (List Int) × Int)), Ch.ro 0 (Sl a38 x31.2.1 c39) x31.2.1, Ch.big K29, Ch.ro 0 (Sl Fe Fd Ff) Fd, Ch.own n0 n0 (Sl a8 r5 c9) r5] ∧ Md (fun i => (cov []) i ∨ (fun b => blk (Sl a25 (mget s13.1 x19) c26) = some b) i) σ14 σ46 from hJ)
    clear hJ Hs
    rw [fr_lookL (L := [(1, (Sl Fe Fd Ff)), (5, (.map (some b15))), (11, (Sl a8 r5 c9)), (12, (I (r5.length : Int))), (13, (I s13.2)), (18, (.map (some b15))), (19, (I x19)), (28, (Sl a44 xs42 c45))]) ⟨e1, e5, e11, e12, e13, e18, e19, e28, trivial⟩]
    clear hoff hrel e1 e5 e11 e12 e13 e18 e19 e28
    replace H := H.sel' [3, 0, 1, 2, 4, 5] rfl rfl
    obtain ⟨K47, hK48, he49⟩ := hK30.put (Sl a44 xs42 c45) xs42
    refine st_exS (he49 (ty := _) H Tryz.underlying113 Tryz.underlying3 rfl rfl rfl) wn ?_
    rintro σ50 ⟨H, -⟩
    refine w_end (q_blk (q_then (rg (st (v := (I (w64 (s13.2 + 1)))) (rv_add (a := s13.2) (b := 1) rfl rfl) (sm (I (w64 (s13.2 + 1))) rfl (w_end (q_then ?_)))))))
    obtain rfl := sj h
    exact ⟨_, rfl, _, σ50, b15, K47, fr_join ⟨rfl, rfl, rfl, rfl, rfl, trivial⟩, rfl, H.sel' [3, 0, 4] rfl rfl, hK48⟩
  ·replace h := bif_f hb18 h
   refine c_exit (q_then_x (q_then_x (q_blk_hit ?_)))
   obtain rfl := sj h
   obtain rfl := hres _ rfl
   exact ⟨rfl, _, σ14, b15, K16, fr_join ⟨rfl, trivial⟩, rfl, H.sel' [1] rfl rfl, hK17⟩
 ·clear hj
  have h := h'
  clear h' H
  rintro e a w ⟨rfl, ρ, σ51, b52, K53, rfl, rfl, H, hK54⟩
  refine q_then (c_seq (rg (sm (.map (some b52)) rfl (sa (.map (some b52)) rfl (w_end (q_then (c_ret ?_)))))))
  obtain rfl := sj h
  exact fin_ret (v := (.map (some b52))) (results_ok Tryz.results83 (res_tmp (v := (.map (some b52))) rfl res_nil) rfl) ⟨b52, K53, rfl, rfl, hK54⟩ (H.sel' [0] rfl rfl)

theorem c_impl_ProbeOrder_1__p_SSint__p24 {Fr : Int} {Es : Int} {Fs : List (List Int)} {Ft : List Int} {Fu : Option Addr} {Fv : Nat} {Fw Fx Fy : Nat} {Ga Gb : List Value} {Gc : Option Addr} {Gd : Nat} {Ge Gf Gg : Nat} {Gh Gi : List Value} {r : Int} (h : M.impl_ProbeOrder_1__p_SSint__p24 Fr Es Fs Ft = some r) :
    Cal2 Tryz.prog 111 [(I Fr), (I Es), (pt Fx Fy), (pt Gf Gg)] [Ch.bx Fw Fx Fy [(Sl Fu Fs Fv)] Ga Gb, Ch.ro 0 (Sl Fu Fs Fv) Fs, Ch.bx Ge Gf Gg [(Sl Gc Ft Gd)] Gh Gi, Ch.ro 0 (Sl Gc Ft Gd) Ft] (fun n0 v L => v = (I r) ∧ L = [Ch.bx Fw Fx Fy [(Sl Fu Fs Fv)] Ga Gb, Ch.bx Ge Gf Gg [(Sl Gc Ft Gd)] Gh Gi]) := by
 refine cal2 (n := 20) Tryz.func111 rfl rfl rfl rfl ?_
 intro S0 σ0 n0 hn0 H
 unfold M.impl_ProbeOrder_1__p_SSint__p24 at h
 refine c_seq (rg (sa (I 0) rfl (w_end (q_then (c_seq ?_)))))
 have hc1 := H.cell (u := (Sl Fu Fs Fv)) (o' := Fy) 0 0 rfl rfl rfl
 revert h; refine br fun x2 hx3 h => ?_
 obtain ⟨b5, o6, hi4, -⟩ := (H.ro 1 rfl).ix hx3
 obtain ⟨v10, hc11, hR9⟩ := ((H.ro 1 rfl).at hx3 hi4).slice
 obtain ⟨a7, c8, rfl⟩ := hR9.isSl
 replace H := H.add (d := Ch.ro 0 (Sl a7 x2 c8) x2) hR9 (fun _ h => h)
 clear hR9
 have hc12 := H.cell (u := (Sl Gc Ft Gd)) (o' := Gg) 3 0 rfl rfl rfl
 revert h; refine br fun r13 hx14 h => ?_
 have hc15 := c_impl_Distance (Ec := a7) (Ed := c8) (Ee := Gc) (Ef := Gd) hx14
 have hc16 := H.cell (u := (Sl Fu Fs Fv)) (o' := Fy) 1 0 rfl rfl rfl
 revert h; refine br fun x17 hx18 h => ?_
 obtain ⟨b20, o21, hi19, -⟩ := (H.ro 2 rfl).ix hx18
 obtain ⟨v25, hc26, hR24⟩ := ((H.ro 2 rfl).at hx18 hi19).slice
 obtain ⟨a22, c23, rfl⟩ := hR24.isSl
 replace H := H.add (d := Ch.ro 0 (Sl a22 x17 c23) x17) hR24 (fun _ h => h)
 clear hR24
 have hc27 := H.cell (u := (Sl Gc Ft Gd)) (o' := Gg) 4 0 rfl rfl rfl
 have Hs := H
 refine rg2 (σ := σ0) (Nm := Unit) 11 [5] [[false], [true]] [[(0, 0)], [(0, 0)], [(0, 0)], [(0, 0)], [(0, 0)], [(0, 1)], [(0, 0), (1, 1)], [(0, 0), (1, 1)], [(0, 0), (1, 1)], [(0, 0), (1, 1)], [(0, 0), (1, 1)]] 1 [fun _ => fun σm => Hp S0 σ0 σm [Ch.ro 0 (Sl a22 x17 c23) x17, Ch.ro 0 (Sl a7 x2 c8) x2, Ch.bx Fw Fx Fy [(Sl Fu Fs Fv)] Ga Gb, Ch.ro 0 (Sl Fu Fs Fv) Fs, Ch.bx Ge Gf Gg [(Sl Gc Ft Gd)] Gh Gi, Ch.ro 0 (Sl Gc Ft Gd) Ft] ∧ Md (cov []) σ0 σm, fun _ => fun σm => Hp S0 σ0 σm [Ch.ro 0 (Sl a22 x17 c23) x17, Ch.ro 0 (Sl a7 x2 c8) x2, Ch.bx Fw Fx Fy [(Sl Fu Fs Fv)] Ga Gb, Ch.ro 0 (Sl Fu Fs Fv) Fs, Ch.bx Ge Gf Gg [(Sl Gc Ft Gd)] Gh Gi, Ch.ro 0 (Sl Gc Ft Gd) Ft] ∧ Md (cov []) σ0 σm] [fun _ => (Sl Fu Fs Fv), fun _ => (I Fr), fun _ => (pt b5 o6), fun _ => (Sl a7 x2 c8), fun _ => (Sl Gc Ft Gd), fun _ => (I r13), fun _ => (Sl Fu Fs Fv), fun _ => (I Es), fun _ => (pt b20 o21), fun _ => (Sl a22 x17 c23), fun _ => (Sl Gc Ft Gd)] () (by kernel_rfl) (by kernel_rfl) ?_ ?_ ?_
 ·intro σm m0
  exact ⟨H.grow (m0.mono fun _ h => h.elim), m0⟩
 ·refine all_cons (by
    refine ⟨?_, ?_⟩
    ·intro _nm ρ σm hJ hoff hdep
     have e2 := look_off (N := 20) (hoff 2 rfl) rfl
     obtain ⟨H, m⟩ := id hJ
     have hc1 := H.cell (u := (Sl Fu Fs Fv)) (o' := Fy) 2 0 rfl rfl rfl
     exact dp_v (v := (Sl Fu Fs Fv)) wn (rv_load1 Tryz.underlying32 rfl e2 hc1) rfl hJ
    trivial) ?_
  refine ac rfl (by
    intro k _nm ρ σm hJ hoff hdep
    have e0 := look_off (N := 20) (hoff 0 rfl) rfl
    exact dp_v (v := (I Fr)) wn (rv_move e0) rfl hJ) ?_
  refine ac rfl (by
    intro k _nm ρ σm hJ hoff hdep
    have e7 := hdep 0 rfl rfl 7 rfl
    have e8 := hdep 1 rfl rfl 8 rfl
    exact dp_v (v := (pt b5 o6)) wn (rv_ix Tryz.underlying32 ti24 e7 e8 hi4) rfl hJ) ?_
  refine all_cons (by
    refine ⟨?_, ?_⟩
    ·intro _nm ρ σm hJ hoff hdep
     have e9 := hdep 2 rfl rfl 9 rfl
     obtain ⟨H, m⟩ := id hJ
     replace hc11 := (Hs.ro 3 rfl).hmd hx3 hi4 (k := 0) (by decide) hc11 m
     exact dp_v (v := (Sl a7 x2 c8)) wn (rv_load1 Tryz.underlying24 rfl e9 hc11) rfl hJ
    trivial) ?_
  refine all_cons (by
    refine ⟨?_, ?_⟩
    ·intro _nm ρ σm hJ hoff hdep
     have e3 := look_off (N := 20) (hoff 3 rfl) rfl
     obtain ⟨H, m⟩ := id hJ
     have hc12 := H.cell (u := (Sl Gc Ft Gd)) (o' := Gg) 4 0 rfl rfl rfl
     exact dp_v (v := (Sl Gc Ft Gd)) wn (rv_load1 Tryz.underlying24 rfl e3 hc12) rfl hJ
    trivial) ?_
  refine all_cons (by
    refine ⟨?_, ?_⟩
    ·intro _nm ρ σm hJ hoff hdep
     have e10 : look 20 ρ 10 = (Sl a7 x2 c8) := hdep 3 rfl rfl 10 rfl
     have e11 : look 20 ρ 11 = (Sl Gc Ft Gd) := hdep 4 rfl rfl 11 rfl
     obtain ⟨H, m⟩ := id hJ
     refine dp_cx wn (cx_call hc15 (ent_f hc15.fn (by show [(I 3), look 20 ρ 10, look 20 ρ 11] = _; rw [e10, e11])) hn0 (H.sel' [1, 5, 0, 1, 2, 3, 4, 5] rfl rfl : Hp S0 σ0 _ ([_, _] ++ _))) ?_
     rintro _ σq ⟨_, ⟨rfl, rfl⟩, H2, m2⟩
     exact ⟨_, (), rfl, rfl, ⟨H2.sel' [0, 1, 2, 3, 4, 5] rfl rfl, m.comp0 (m2.mono (fun i h => by simp [cov, Ch.ro] at h))⟩, stab [0, 1, 2, 3, 4, 6, 7, 8, 9, 10] (by kernel_rfl) ⟨rfl, rfl, rfl, rfl, rfl, rfl, rfl, rfl, rfl, rfl, trivial⟩⟩
    trivial) ?_
  refine all_cons (by
    refine ⟨?_, ?_⟩
    ·intro _nm ρ σm hJ hoff hdep
     have e2 := look_off (N := 20) (hoff 2 rfl) rfl
     obtain ⟨H, m⟩ := id hJ
     have hc16 := H.cell (u := (Sl Fu Fs Fv)) (o' := Fy) 2 0 rfl rfl rfl
     exact dp_v (v := (Sl Fu Fs Fv)) wn (rv_load1 Tryz.underlying32 rfl e2 hc16) rfl hJ
    refine ⟨?_, ?_⟩
    ·intro _nm ρ σm hJ hoff hdep
     have e2 := look_off (N := 20) (hoff 2 rfl) rfl
     obtain ⟨H, m⟩ := id hJ
     have hc16 := H.cell (u := (Sl Fu Fs Fv)) (o' := Fy) 2 0 rfl rfl rfl
     exact dp_v (v := (Sl Fu Fs Fv)) wn (rv_load1 Tryz.underlying32 rfl e2 hc16) rfl hJ
    trivial) ?_
  refine ac rfl (by
    intro k _nm ρ σm hJ hoff hdep
    have e1 := look_off (N := 20) (hoff 1 rfl) rfl
    exact dp_v (v := (I Es)) wn (rv_move e1) rfl hJ) ?_
  refine ac rfl (by
    intro k _nm ρ σm hJ hoff hdep
    have e13 := hdep 6 rfl rfl 13 rfl
    have e14 := hdep 7 rfl rfl 14 rfl
    exact dp_v (v := (pt b20 o21)) wn (rv_ix Tryz.underlying32 ti24 e13 e14 hi19) rfl hJ) ?_
  refine all_cons (by
    refine ⟨?_, ?_⟩
    ·intro _nm ρ σm hJ hoff hdep
     have e15 := hdep 8 rfl rfl 15 rfl
     obtain ⟨H, m⟩ := id hJ
     replace hc26 := (Hs.ro 3 rfl).hmd hx18 hi19 (k := 0) (by decide) hc26 m
     exact dp_v (v := (Sl a22 x17 c23)) wn (rv_load1 Tryz.underlying24 rfl e15 hc26) rfl hJ
    refine ⟨?_, ?_⟩
    ·intro _nm ρ σm hJ hoff hdep
     have e15 := hdep 8 rfl rfl 15 rfl
     obtain ⟨H, m⟩ := id hJ
     replace hc26 := (Hs.ro 3 rfl).hmd hx18 hi19 (k := 0) (by decide) hc26 m
     exact dp_v (v := (Sl a22 x17 c23)) wn (rv_load1 Tryz.underlying24 rfl e15 hc26) rfl hJ
    trivial) ?_
  refine all_cons (by
    refine ⟨?_, ?_⟩
    ·intro _nm ρ σm hJ hoff hdep
     have e3 := look_off (N := 20) (hoff 3 rfl) rfl
     obtain ⟨H, m⟩ := id hJ
     have hc27 := H.cell (u := (Sl Gc Ft Gd)) (o' := Gg) 4 0 rfl rfl rfl
     exact dp_v (v := (Sl Gc Ft Gd)) wn (rv_load1 Tryz.underlying24 rfl e3 hc27) rfl hJ
    refine ⟨?_, ?_⟩
    ·intro _nm ρ σm hJ hoff hdep
     have e3 := look_off (N := 20) (hoff 3 rfl) rfl
     obtain ⟨H, m⟩ := id hJ
     have hc27 := H.cell (u := (Sl Gc Ft Gd)) (o' := Gg) 4 0 rfl rfl rfl
     exact dp_v (v := (Sl Gc Ft Gd)) wn (rv_load1 Tryz.underlying24 rfl e3 hc27) rfl hJ
    trivial) ?_
  exact all_nil
 ·intro _nm ρ σ28 hJ hoff hrel
  have e2 := look_off (N := 20) (hoff 2 rfl) rfl
  have e3 := look_off (N := 20) (hoff 3 rfl) rfl
  have e12 := hrel 5 rfl 12 rfl
  have e16 := hrel 9 rfl 16 rfl
  have e17 := hrel 10 rfl 17 rfl
  obtain ⟨H, -⟩ := (show Hp S0 σ0 σ28 [Ch.ro 0 (Sl a22 x17 c23) x17, Ch.ro 0 (Sl a7 x2 c8) x2, Ch.bx Fw Fx Fy [(Sl Fu Fs Fv)] Ga Gb, Ch.ro 0 (Sl Fu Fs Fv) Fs, Ch.bx Ge Gf Gg [(Sl Gc Ft Gd)] Gh Gi, Ch.ro 0 (Sl Gc Ft Gd) Ft] ∧ Md (cov []) σ0 σ28 from hJ)
  clear hJ Hs
  rw [fr_lookL (L := [(2, (pt Fx Fy)), (3, (pt Gf Gg)), (12, (I r13)), (16, (Sl a22 x17 c23)), (17, (Sl Gc Ft Gd))]) ⟨e2, e3, e12, e16, e17, trivial⟩]
  clear hoff hrel e2 e3 e12 e16 e17
  revert h; refine br fun r29 hx30 h => ?_
  have hc31 := c_impl_Distance (Ec := a22) (Ed := c23) (Ee := Gc) (Ef := Gd) hx30
  refine st_call (cx_call hc31 (ent_f hc31.fn rfl) hn0 (H.sel' [0, 5, 0, 1, 2, 3, 4, 5] rfl rfl : Hp S0 σ0 _ ([_, _] ++ _))) wn ?_
  rintro _ σ32 ⟨_, ⟨rfl, rfl⟩, H, -⟩
  replace H : Hp _ _ _ [_, _, _, _, _, _] := H
  revert h; refine br fun r33 hx34 h => ?_
  have hc35 := c_cmp_Compare_int hx34
  refine st_call (cx_call hc35 (ent_f hc35.fn rfl) hn0 (H.sel' [0, 1, 2, 3, 4, 5] rfl rfl : Hp S0 σ0 _ ([] ++ _))) wn ?_
  rintro _ σ36 ⟨_, ⟨rfl, rfl⟩, H, -⟩
  replace H : Hp _ _ _ [_, _, _, _, _, _] := H
  refine sa (I r33) rfl (w_end (q_then (c_ret ?_)))
  obtain rfl := sj h
  exact fin_ret (v := (I r33)) (results_ok Tryz.results111 (res_tmp (v := (I r33)) rfl res_nil) rfl) ⟨rfl, rfl⟩ (H.sel' [2, 4] rfl rfl)

theorem c_slices_insertionSortCmpFunc_int__impl_ProbeOrder_1 {Cf : List Int} {Cg : Int} {Ci : Int} {Gj : List (List Int)} {Gk : List Int} {Cj : Option Addr} {Ck : Nat} {Gl : Option Addr} {Gm : Nat} {Gn Gp Gq : Nat} {Gr Gs : List Value} {Gt : Option Addr} {Gu : Nat} {Gv Gw Gx : Nat} {Gy Gz : List Value} {r : (List Int)} (h : M.slices_insertionSortCmpFunc_int__impl_ProbeOrder_1 Cf Cg Ci Gj Gk = some r) :
    Cal2 Tryz.prog 147 [(Sl Cj Cf Ck), (I Cg), (I Ci), (.func (.func 111) #[] #[(pt Gp Gq), (pt Gw Gx)])] [Ch.own 0 0 (Sl Cj Cf Ck) Cf, Ch.bx Gn Gp Gq [(Sl Gl Gj Gm)] Gr Gs, Ch.ro 0 (Sl Gl Gj Gm) Gj, Ch.bx Gv Gw Gx [(Sl Gt Gk Gu)] Gy Gz, Ch.ro 0 (Sl Gt Gk Gu) Gk] (fun n0 v L => v = (.tuple #[]) ∧ L = [Ch.own 0 0 (Sl Cj r Ck) r, Ch.bx Gn Gp Gq [(Sl Gl Gj Gm)] Gr Gs, Ch.bx Gv Gw Gx [(Sl Gt Gk Gu)] Gy Gz] ∧ r.length = Cf.length) := by
 refine cal2 (n := 53) Tryz.func147 rfl rfl rfl rfl ?_
 intro S0 σ0 n0 hn0 H
 unfold M.slices_insertionSortCmpFunc_int__impl_ProbeOrder_1 at h
 refine c_seq (rg (sm (I Cg) rfl (st (v := (I (w64 (Cg + 1)))) (rv_add (a := Cg) (b := 1) rfl rfl) (sa (I (w64 (Cg + 1))) rfl (w_end (q_then ?_))))))
 obtain ⟨o1, hj, h'⟩ := bind_some h
 clear h
 refine c_cut (fun e a w => e = .normal ∧ ∃ (ρ : Nat → Value) (σ : St), a = fr 53 (updL ρ [(0, (Sl Cj o1 Ck)), (3, (.func (.func 111) #[] #[(pt Gp Gq), (pt Gw Gx)]))]) ∧ w = σ.w ∧ Hp S0 σ0 σ [Ch.own 0 0 (Sl Cj o1 Ck) o1, Ch.ro 0 (Sl Gl Gj Gm) Gj, Ch.bx Gn Gp Gq [(Sl Gl Gj Gm)] Gr Gs, Ch.ro 0 (Sl Gt Gk Gu) Gk, Ch.bx Gv Gw Gx [(Sl Gt Gk Gu)] Gy Gz] ∧ o1.length = Cf.length) ?_ ?_
 ·clear h'
  rename _ = some o1 => h
  refine c_blk (wp_loopM _ h (fun s2 a w => ∃ (ρ : Nat → Value) (σ : St), a = fr 53 (updL ρ [(0, (Sl Cj s2.1 Ck)), (1, (I Cg)), (2, (I Ci)), (3, (.func (.func 111) #[] #[(pt Gp Gq), (pt Gw Gx)])), (8, (I s2.2))]) ∧ w = σ.w ∧ Hp S0 σ0 σ [Ch.own 0 0 (Sl Cj s2.1 Ck) s2.1, Ch.ro 0 (Sl Gl Gj Gm) Gj, Ch.bx Gn Gp Gq [(Sl Gl Gj Gm)] Gr Gs, Ch.ro 0 (Sl Gt Gk Gu) Gk, Ch.bx Gv Gw Gx [(Sl Gt Gk Gu)] Gy Gz] ∧ s2.1.length = Cf.length) ⟨_, σ0, fr_join ⟨rfl, rfl, rfl, rfl, rfl, trivial⟩, rfl, H.sel' [0, 2, 1, 4, 3] rfl rfl, rfl⟩ ?_)
  clear h H
  rintro s2 a w o ⟨ρ, σ3, rfl, rfl, H, hn4⟩ h hres
  refine c_seq (c_seq (rg (sm (I s2.2) rfl (sm (I Ci) rfl (st (v := (B (decide (s2.2 < Ci)))) (rv_lss (a := s2.2) (b := Ci) rfl rfl) (w_end (q_then ?_)))))))
  refine cd_cond (decide (s2.2 < Ci)) rfl (fun hb5 => ?_) (fun hb5 => ?_)
  ·replace h := bif_t hb5 h
   refine c_skip (q_then (c_seq (c_blk (c_seq (rg (sm (I s2.2) rfl (sa (I s2.2) rfl (w_end (q_then ?_)))))))))
   obtain ⟨o6, hj, h'⟩ := bind_some h
   clear h
   refine c_cut (fun e a w => e = .normal ∧ ∃ (ρ : Nat → Value) (σ : St), a = fr 53 (updL ρ [(0, (Sl Cj o6 Ck)), (1, (I Cg)), (2, (I Ci)), (3, (.func (.func 111) #[] #[(pt Gp Gq), (pt Gw Gx)])), (8, (I s2.2))]) ∧ w = σ.w ∧ Hp S0 σ0 σ [Ch.own 0 0 (Sl Cj o6 Ck) o6, Ch.ro 0 (Sl Gl Gj Gm) Gj, Ch.bx Gn Gp Gq [(Sl Gl Gj Gm)] Gr Gs, Ch.ro 0 (Sl Gt Gk Gu) Gk, Ch.bx Gv Gw Gx [(Sl Gt Gk Gu)] Gy Gz] ∧ o6.length = s2.1.length) ?_ ?_
   ·clear h'
    rename _ = some o6 => h
    refine c_blk (wp_loopM _ h (fun s7 a w => ∃ (ρ : Nat → Value) (σ : St), a = fr 53 (updL ρ [(0, (Sl Cj s7.1 Ck)), (1, (I Cg)), (2, (I Ci)), (3, (.func (.func 111) #[] #[(pt Gp Gq), (pt Gw Gx)])), (8, (I s2.2)), (9, (I s7.2))]) ∧ w = σ.w ∧ Hp S0 σ0 σ [Ch.own 0 0 (Sl Cj s7.1 Ck) s7.1, Ch.ro 0 (Sl Gl Gj Gm) Gj, Ch.bx Gn Gp Gq [(Sl Gl Gj Gm)] Gr Gs, Ch.ro 0 (Sl Gt Gk Gu) Gk, Ch.bx Gv Gw Gx [(Sl Gt Gk Gu)] Gy Gz] ∧ s7.1.length = s2.1.length) ⟨_, σ3, fr_join ⟨rfl, rfl, rfl, rfl, rfl, rfl, trivial⟩, rfl, H.sel' [0, 1, 2, 3, 4] rfl rfl, rfl⟩ ?_)
    clear h H
    rintro s7 a w o ⟨ρ, σ8, rfl, rfl, H, hn9⟩ h hres
    refine c_seq (c_seq ?_)
    obtain ⟨o10, hj, h'⟩ := bind_some h
    clear h
    refine c_cut (fun e a w => e = .normal ∧ ∃ (ρ : Nat → Value) (σ : St), a = fr 53 (updL ρ [(0, (Sl Cj s7.1 Ck)), (1, (I Cg)), (2, (I Ci)), (3, (.func (.func 111) #[] #[(pt Gp Gq), (pt Gw Gx)])), (8, (I s2.2)), (9, (I s7.2)), (34, (B o10))]) ∧ w = σ.w ∧ Hp S0 σ0 σ [Ch.own 0 0 (Sl Cj s7.1 Ck) s7.1, Ch.ro 0 (Sl Gl Gj Gm) Gj, Ch.bx Gn Gp Gq [(Sl Gl Gj Gm)] Gr Gs, Ch.ro 0 (Sl Gt Gk Gu) Gk, Ch.bx Gv Gw Gx [(Sl Gt Gk Gu)] Gy Gz]) ?_ ?_
    ·clear h'
     rename _ = some o10 => h
     refine rgP (σ := σ8) 14 (by kernel_rfl) (by kernel_rfl) (by kernel_rfl) ?_
     refine sq (v := (I s7.2)) (rv_move rfl) (sq (v := (I Cg)) (rv_move rfl) (sq (v := (B (decide (Cg < s7.2)))) (rv_gtr (a := s7.2) (b := Cg) rfl rfl) (sq (v := (B (decide (Cg < s7.2)))) (rv_move rfl) ?_)))
     rcases Bool.eq_false_or_eq_true (decide (Cg < s7.2)) with hb11 | hb11
     ·replace h := bif_t hb11 h
      refine sq_g (v := (.func (.func 111) #[] #[(pt Gp Gq), (pt Gw Gx)])) (congrArg some hb11) (rv_move rfl) (sq_g (v := (Sl Cj s7.1 Ck)) (congrArg some hb11) (rv_move rfl) (sq_g (v := (I s7.2)) (congrArg some hb11) (rv_move rfl) ?_))
      revert h; refine br fun x12 hx13 h => ?_
      obtain ⟨b15, o16, hi14, -⟩ := (H.own 0 rfl).ix hx13
      refine sq_g (v := (pt b15 o16)) (congrArg some hb11) (rv_ix Tryz.underlying24 ti3 rfl rfl hi14) ?_
      have hc17 := ((H.own 0 rfl).at hx13 hi14).int
      refine sq_g (v := (I x12)) (congrArg some hb11) (rv_load1 Tryz.underlying3 rfl rfl hc17) (sq_g (v := (Sl Cj s7.1 Ck)) (congrArg some hb11) (rv_move rfl) (sq_g (v := (I s7.2)) (congrArg some hb11) (rv_move rfl) (sq_g (v := (I (w64 (s7.2 - 1)))) (congrArg some hb11) (rv_sub (a := s7.2) (b := 1) rfl rfl) ?_)))
      revert h; refine br fun x18 hx19 h => ?_
      obtain ⟨b21, o22, hi20, -⟩ := (H.own 0 rfl).ix hx19
      refine sq_g (v := (pt b21 o22)) (congrArg some hb11) (rv_ix Tryz.underlying24 ti3 rfl rfl hi20) ?_
      have hc23 := ((H.own 0 rfl).at hx19 hi20).int
      refine sq_g (v := (I x18)) (congrArg some hb11) (rv_load1 Tryz.underlying3 rfl rfl hc23) (sq_end ?_)
      intro σ24 hm25
      replace H := H.grow (hm25.mono fun _ h => h); clear hm25
      revert h; refine br fun r26 hx27 h => ?_
      have hc28 := c_impl_ProbeOrder_1__p_SSint__p24 (Fw := Gn) (Fx := Gp) (Fy := Gq) (Ga := Gr) (Gb := Gs) (Fu := Gl) (Fv := Gm) (Ge := Gv) (Gf := Gw) (Gg := Gx) (Gh := Gy) (Gi := Gz) (Gc := Gt) (Gd := Gu) hx27
      refine st_call (cx_call hc28 (ent_v (cap := [(pt Gp Gq), (pt Gw Gx)]) hc28.fn rfl rfl) hn0 (H.sel' [2, 1, 4, 3, 0, 1, 3] rfl rfl : Hp S0 σ0 _ ([_, _, _, _] ++ _))) (wanted_yes rfl (by exact (congrArg some hb11))) ?_
      rintro _ σ29 ⟨_, ⟨rfl, rfl⟩, H, -⟩
      replace H : Hp _ _ _ [_, _, _, _, _] := H
      refine st_g (v := (B (decide (r26 < 0)))) (congrArg some hb11) (rv_lss (a := r26) (b := 0) rfl rfl) (st (v := (B (decide (r26 < 0)))) (rv_pick_t (congrArg B hb11) rfl) (w_end ?_))
      obtain rfl := sj h
      exact ⟨rfl, _, σ29, fr_join ⟨rfl, rfl, rfl, rfl, rfl, rfl, rfl, trivial⟩, rfl, H.sel' [2, 3, 0, 4, 1] rfl rfl⟩
     ·replace h := bif_f hb11 h
      refine sq_skip (congrArg some hb11) (sq_skip (congrArg some hb11) (sq_skip (congrArg some hb11) (sq_skip (congrArg some hb11) (sq_skip (congrArg some hb11) (sq_skip (congrArg some hb11) (sq_skip (congrArg some hb11) (sq_skip (congrArg some hb11) (sq_skip (congrArg some hb11) (sq_skip (congrArg some hb11) (sq_end ?_))))))))))
      intro σ30 hm31
      replace H := H.grow (hm31.mono fun _ h => h); clear hm31
      refine st_skip (congrArg some hb11) (st_skip (congrArg some hb11) (st (v := (B false)) (rv_pick_f (congrArg B hb11) rfl) (w_end ?_)))
      obtain rfl := sj h
      exact ⟨rfl, _, σ30, fr_join ⟨rfl, rfl, rfl, rfl, rfl, rfl, rfl, trivial⟩, rfl, H.sel' [0, 1, 2, 3, 4] rfl rfl⟩
    ·clear hj
     have h := h'
     clear h' H
     rintro e a w ⟨rfl, ρ, σ32, rfl, rfl, H⟩
     refine q_then ?_
     refine cd_cond o10 rfl (fun hb33 => ?_) (fun hb33 => ?_)
     ·replace h := bif_t hb33 h
      refine c_skip (q_then (c_seq (c_blk ?_)))
      revert h; refine br fun x34 hx35 h => ?_
      obtain ⟨b37, o38, hi36, -⟩ := (H.own 0 rfl).ix hx35
      have hc39 := ((H.own 0 rfl).at hx35 hi36).int
      revert h; refine br fun x40 hx41 h => ?_
      obtain ⟨b43, o44, hi42, -⟩ := (H.own 0 rfl).ix hx41
      have hc45 := ((H.own 0 rfl).at hx41 hi42).int
      revert h; refine br fun x46 hx47 h => ?_
      obtain ⟨b49, o50, hi48, -⟩ := (H.own 0 rfl).ix hx47
      have Hs := H
      refine rg2 (σ := σ32) (Nm := Unit) 16 [15] [[false], [true]] [[(0, 0)], [(0, 0)], [(0, 0), (1, 1)], [(0, 0), (1, 1)], [(0, 0), (1, 1)], [(0, 0)], [(0, 0)], [(0, 0)], [(0, 0)], [(0, 0)], [(0, 0)], [(0, 0)], [(0, 0)], [(0, 0)], [(0, 0)], [(0, 1)]] 1 [fun _ => fun σm => Hp S0 σ0 σm [Ch.own 0 0 (Sl Cj s7.1 Ck) s7.1, Ch.ro 0 (Sl Gl Gj Gm) Gj, Ch.bx Gn Gp Gq [(Sl Gl Gj Gm)] Gr Gs, Ch.ro 0 (Sl Gt Gk Gu) Gk, Ch.bx Gv Gw Gx [(Sl Gt Gk Gu)] Gy Gz] ∧ Md (cov []) σ32 σm, fun _ => fun σm => Hp S0 σ0 σm [Ch.own 0 0 (Sl Cj s7.1 Ck) (s7.1.set s7.2.toNat x34), Ch.ro 0 (Sl Gl Gj Gm) Gj, Ch.bx Gn Gp Gq [(Sl Gl Gj Gm)] Gr Gs, Ch.ro 0 (Sl Gt Gk Gu) Gk, Ch.bx Gv Gw Gx [(Sl Gt Gk Gu)] Gy Gz] ∧ Md (fun i => (cov []) i ∨ (fun b => blk (Sl Cj s7.1 Ck) = some b) i) σ32 σm] [fun _ => (Sl Cj s7.1 Ck), fun _ => (I s7.2), fun _ => (Sl Cj s7.1 Ck), fun _ => (I s7.2), fun _ => (I (w64 (s7.2 - 1))), fun _ => (Sl Cj s7.1 Ck), fun _ => (I s7.2), fun _ => (I (w64 (s7.2 - 1))), fun _ => (pt b37 o38), fun _ => (I x34), fun _ => (Sl Cj s7.1 Ck), fun _ => (I s7.2), fun _ => (pt b43 o44), fun _ => (I x40), fun _ => (pt b49 o50), fun _ => undef] () (by kernel_rfl) (by kernel_rfl) ?_ ?_ ?_
      ·intro σm m0
       exact ⟨H.grow (m0.mono fun _ h => h.elim), m0⟩
      ·refine ac rfl (by
         intro k _nm ρ σm hJ hoff hdep
         have e0 := look_off (N := 53) (hoff 0 rfl) rfl
         exact dp_v (v := (Sl Cj s7.1 Ck)) wn (rv_move e0) rfl hJ) ?_
       refine ac rfl (by
         intro k _nm ρ σm hJ hoff hdep
         have e9 := look_off (N := 53) (hoff 9 rfl) rfl
         exact dp_v (v := (I s7.2)) wn (rv_move e9) rfl hJ) ?_
       refine ac rfl (by
         intro k _nm ρ σm hJ hoff hdep
         have e0 := look_off (N := 53) (hoff 0 rfl) rfl
         exact dp_v (v := (Sl Cj s7.1 Ck)) wn (rv_move e0) rfl hJ) ?_
       refine ac rfl (by
         intro k _nm ρ σm hJ hoff hdep
         have e9 := look_off (N := 53) (hoff 9 rfl) rfl
         exact dp_v (v := (I s7.2)) wn (rv_move e9) rfl hJ) ?_
       refine ac rfl (by
         intro k _nm ρ σm hJ hoff hdep
         have e40 := hdep 3 rfl rfl 40 rfl
         exact dp_v (v := (I (w64 (s7.2 - 1)))) wn (rv_sub (a := s7.2) (b := 1) e40 rfl) rfl hJ) ?_
       refine ac rfl (by
         intro k _nm ρ σm hJ hoff hdep
         have e0 := look_off (N := 53) (hoff 0 rfl) rfl
         exact dp_v (v := (Sl Cj s7.1 Ck)) wn (rv_move e0) rfl hJ) ?_
       refine ac rfl (by
         intro k _nm ρ σm hJ hoff hdep
         have e9 := look_off (N := 53) (hoff 9 rfl) rfl
         exact dp_v (v := (I s7.2)) wn (rv_move e9) rfl hJ) ?_
       refine ac rfl (by
         intro k _nm ρ σm hJ hoff hdep
         have e43 := hdep 6 rfl rfl 43 rfl
         exact dp_v (v := (I (w64 (s7.2 - 1)))) wn (rv_sub (a := s7.2) (b := 1) e43 rfl) rfl hJ) ?_
       refine ac rfl (by
         intro k _nm ρ σm hJ hoff hdep
         have e42 := hdep 5 rfl rfl 42 rfl
         have e44 := hdep 7 rfl rfl 44 rfl
         exact dp_v (v := (pt b37 o38)) wn (rv_ix Tryz.underlying24 ti3 e42 e44 hi36) rfl hJ) ?_
       refine all_cons (by
         refine ⟨?_, ?_⟩
         ·intro _nm ρ σm hJ hoff hdep
          have e45 := hdep 8 rfl rfl 45 rfl
          obtain ⟨H, m⟩ := id hJ
          have hc39 := ((H.own 0 rfl).at hx35 hi36).int
          exact dp_v (v := (I x34)) wn (rv_load1 Tryz.underlying3 rfl e45 hc39) rfl hJ
         trivial) ?_
       refine ac rfl (by
         intro k _nm ρ σm hJ hoff hdep
         have e0 := look_off (N := 53) (hoff 0 rfl) rfl
         exact dp_v (v := (Sl Cj s7.1 Ck)) wn (rv_move e0) rfl hJ) ?_
       refine ac rfl (by
         intro k _nm ρ σm hJ hoff hdep
         have e9 := look_off (N := 53) (hoff 9 rfl) rfl
         exact dp_v (v := (I s7.2)) wn (rv_move e9) rfl hJ) ?_
       refine ac rfl (by
         intro k _nm ρ σm hJ hoff hdep
         have e47 := hdep 10 rfl rfl 47 rfl
         have e48 := hdep 11 rfl rfl 48 rfl
         exact dp_v (v := (pt b43 o44)) wn (rv_ix Tryz.underlying24 ti3 e47 e48 hi42) rfl hJ) ?_
       refine all_cons (by
         refine ⟨?_, ?_⟩
         ·intro _nm ρ σm hJ hoff hdep
          have e49 := hdep 12 rfl rfl 49 rfl
          obtain ⟨H, m⟩ := id hJ
          have hc45 := ((H.own 0 rfl).at hx41 hi42).int
          exact dp_v (v := (I x40)) wn (rv_load1 Tryz.underlying3 rfl e49 hc45) rfl hJ
         trivial) ?_
       refine ac rfl (by
         intro k _nm ρ σm hJ hoff hdep
         have e37 := hdep 0 rfl rfl 37 rfl
         have e38 := hdep 1 rfl rfl 38 rfl
         exact dp_v (v := (pt b49 o50)) wn (rv_ix Tryz.underlying24 ti3 e37 e38 hi48) rfl hJ) ?_
       refine all_cons (by
         refine ⟨?_, ?_⟩
         ·intro _nm ρ σm hJ hoff hdep
          have e51 := hdep 14 rfl rfl 51 rfl
          have e46 := hdep 9 rfl rfl 46 rfl
          obtain ⟨H, m⟩ := id hJ
          refine dp_exS wn rfl (ex_store_own (e' := x34) (vs := [(I x34)]) (k := 0) H (i := 0) rfl ti3 hx47 hi48 e51 rfl e46 rfl rfl (Nat.le_of_ble_eq_true rfl) (by simp [plain]) (by rintro _ rfl; exact rfl)) ?_
          rintro σq ⟨H2, m2⟩
          exact ⟨_, (), rfl, ⟨H2.sel' [0, 1, 2, 3, 4] rfl rfl, m.comp m2⟩, stab [0, 1, 2, 3, 4, 5, 6, 7, 8, 9, 10, 11, 12, 13, 14] (by kernel_rfl) ⟨rfl, rfl, rfl, rfl, rfl, rfl, rfl, rfl, rfl, rfl, rfl, rfl, rfl, rfl, rfl, trivial⟩⟩
         trivial) ?_
       exact all_nil
      ·intro _nm ρ σ51 hJ hoff hrel
       have e0 := look_off (N := 53) (hoff 0 rfl) rfl
       have e1 := look_off (N := 53) (hoff 1 rfl) rfl
       have e2 := look_off (N := 53) (hoff 2 rfl) rfl
       have e3 := look_off (N := 53) (hoff 3 rfl) rfl
       have e8 := look_off (N := 53) (hoff 8 rfl) rfl
       have e9 := look_off (N := 53) (hoff 9 rfl) rfl
       have e39 := hrel 2 rfl 39 rfl
       have e41 := hrel 4 rfl 41 rfl
       have e50 := hrel 13 rfl 50 rfl
       obtain ⟨H, -⟩ := (show Hp S0 σ0 σ51 [Ch.own 0 0 (Sl Cj s7.1 Ck) (s7.1.set s7.2.toNat x34), Ch.ro 0 (Sl Gl Gj Gm) Gj, Ch.bx Gn Gp Gq [(Sl Gl Gj Gm)] Gr Gs, Ch.ro 0 (Sl Gt Gk Gu) Gk, Ch.bx Gv Gw Gx [(Sl Gt Gk Gu)] Gy Gz] ∧ Md (fun i => (cov []) i ∨ (fun b => blk (Sl Cj s7.1 Ck) = some b) i) σ32 σ51 from hJ)
       clear hJ Hs
       rw [fr_lookL (L := [(0, (Sl Cj s7.1 Ck)), (1, (I Cg)), (2, (I Ci)), (3, (.func (.func 111) #[] #[(pt Gp Gq), (pt Gw Gx)])), (8, (I s2.2)), (9, (I s7.2)), (39, (Sl Cj s7.1 Ck)), (41, (I (w64 (s7.2 - 1)))), (50, (I x40))]) ⟨e0, e1, e2, e3, e8, e9, e39, e41, e50, trivial⟩]
       clear hoff hrel e0 e1 e2 e3 e8 e9 e39 e41 e50
       have hsl : (Sl Cj s7.1 Ck) = (Sl Cj (s7.1.set s7.2.toNat x34) Ck) := sl_len (by simp)
       rw [hsl]; rw [hsl] at H; clear hsl
       revert h; refine br fun x52 hx53 h => ?_
       obtain ⟨b55, o56, hi54, -⟩ := (H.own 0 rfl).ix hx53
       refine st (v := (pt b55 o56)) (rv_ix Tryz.underlying24 ti3 rfl rfl hi54) ?_
       refine st_exS (ex_store_own (e' := x40) (vs := [(I x40)]) (k := 0) H (i := 0) rfl ti3 hx53 hi54 rfl rfl rfl rfl rfl (Nat.le_of_ble_eq_true rfl) (by simp [plain]) (by rintro _ rfl; exact rfl)) wn ?_
       rintro σ57 ⟨H, -⟩
       have hsl : (Sl Cj (s7.1.set s7.2.toNat x34) Ck) = (Sl Cj ((s7.1.set s7.2.toNat x34).set (w64 (s7.2 - 1)).toNat x40) Ck) := sl_len List.length_set.symm
       rw [hsl]; rw [hsl] at H; clear hsl
       refine w_end (q_blk (q_then (rg (sm (I s7.2) rfl (st (v := (I (w64 (s7.2 - 1)))) (rv_sub (a := s7.2) (b := 1) rfl rfl) (sa (I (w64 (s7.2 - 1))) rfl (w_end (q_then ?_))))))))
       obtain rfl := sj h
       exact ⟨_, rfl, _, σ57, fr_join ⟨rfl, rfl, rfl, rfl, rfl, rfl, trivial⟩, rfl, H.sel' [0, 1, 2, 3, 4] rfl rfl, ((List.length_set.trans (List.length_set.trans (hn9.trans hn4))).trans hn4.symm)⟩
     ·replace h := bif_f hb33 h
      refine c_exit (q_then_x (q_then_x (q_blk_hit ?_)))
      obtain rfl := sj h
      obtain rfl := hres _ rfl
      exact ⟨rfl, _, σ32, fr_join ⟨rfl, rfl, rfl, rfl, rfl, trivial⟩, rfl, H.sel' [0, 1, 2, 3, 4] rfl rfl, ((hn9.trans hn4).trans hn4.symm)⟩
   ·clear hj
    have h := h'
    clear h' H
    rintro e a w ⟨rfl, ρ, σ58, rfl, rfl, H, hn59⟩
    refine q_blk (q_then (rg (sm (I s2.2) rfl (st (v := (I (w64 (s2.2 + 1)))) (rv_add (a := s2.2) (b := 1) rfl rfl) (sa (I (w64 (s2.2 + 1))) rfl (w_end (q_then ?_)))))))
    obtain rfl := sj h
    exact ⟨_, rfl, _, σ58, fr_join ⟨rfl, rfl, rfl, rfl, rfl, trivial⟩, rfl, H.sel' [0, 1, 2, 3, 4] rfl rfl, (hn59.trans hn4)⟩
  ·replace h := bif_f hb5 h
   refine c_exit (q_then_x (q_then_x (q_blk_hit ?_)))
   obtain rfl := sj h
   obtain rfl := hres _ rfl
   exact ⟨rfl, _, σ3, fr_join ⟨rfl, rfl, trivial⟩, rfl, H.sel' [0, 1, 2, 3, 4] rfl rfl, hn4⟩
 ·clear hj
  have h := h'
  clear h' H
  rintro e a w ⟨rfl, ρ, σ60, rfl, rfl, H, hn61⟩
  obtain rfl := sj h
  exact fin_end (v := (.tuple #[])) (results_ok Tryz.results147 res_nil rfl) ⟨rfl, rfl, hn61⟩ (H.sel' [0, 2, 4] rfl rfl)

theorem c_slices_swapRangeCmpFunc_int__impl_ProbeOrder_1 {Cf : List Int} {Cg : Int} {Ci : Int} {Ha : Int} {Hc : List (List Int)} {Hd : List Int} {Cj : Option Addr} {Ck : Nat} {He : Option Addr} {Hf : Nat} {Hg Hi Hj : Nat} {Hk Hl : List Value} {Hm : Option Addr} {Hn : Nat} {Ho Hq Hr : Nat} {Ht Hu : List Value} {r : (List Int)} (h : M.slices_swapRangeCmpFunc_int__impl_ProbeOrder_1 Cf Cg Ci Ha Hc Hd = some r) :
    Cal2 Tryz.prog 160 [(Sl Cj Cf Ck), (I Cg), (I Ci), (I Ha), (.func (.func 111) #[] #[(pt Hi Hj), (pt Hq Hr)])] [Ch.own 0 0 (Sl Cj Cf Ck) Cf, Ch.bx Hg Hi Hj [(Sl He Hc Hf)] Hk Hl, Ch.ro 0 (Sl He Hc Hf) Hc, Ch.bx Ho Hq Hr [(Sl Hm Hd Hn)] Ht Hu, Ch.ro 0 (Sl Hm Hd Hn) Hd] (fun n0 v L => v = (.tuple #[]) ∧ L = [Ch.own 0 0 (Sl Cj r Ck) r, Ch.bx Hg Hi Hj [(Sl He Hc Hf)] Hk Hl, Ch.bx Ho Hq Hr [(Sl Hm Hd Hn)] Ht Hu] ∧ r.length = Cf.length) := by
 refine cal2 (n := 38) Tryz.func160 rfl rfl rfl rfl ?_
 intro S0 σ0 n0 hn0 H
 unfold M.slices_swapRangeCmpFunc_int__impl_ProbeOrder_1 at h
 refine c_seq (rg (sa (I 0) rfl (w_end (q_then ?_))))
 obtain ⟨o1, hj, h'⟩ := bind_some h
 clear h
 refine c_cut (fun e a w => e = .normal ∧ ∃ (ρ : Nat → Value) (σ : St), a = fr 38 (updL ρ [(0, (Sl Cj o1 Ck)), (4, (.func (.func 111) #[] #[(pt Hi Hj), (pt Hq Hr)]))]) ∧ w = σ.w ∧ Hp S0 σ0 σ [Ch.own 0 0 (Sl Cj o1 Ck) o1, Ch.ro 0 (Sl He Hc Hf) Hc, Ch.bx Hg Hi Hj [(Sl He Hc Hf)] Hk Hl, Ch.ro 0 (Sl Hm Hd Hn) Hd, Ch.bx Ho Hq Hr [(Sl Hm Hd Hn)] Ht Hu] ∧ o1.length = Cf.length) ?_ ?_
 ·clear h'
  rename _ = some o1 => h
  refine c_blk (wp_loopM _ h (fun s2 a w => ∃ (ρ : Nat → Value) (σ : St), a = fr 38 (updL ρ [(0, (Sl Cj s2.1 Ck)), (1, (I Cg)), (2, (I Ci)), (3, (I Ha)), (4, (.func (.func 111) #[] #[(pt Hi Hj), (pt Hq Hr)])), (10, (I s2.2))]) ∧ w = σ.w ∧ Hp S0 σ0 σ [Ch.own 0 0 (Sl Cj s2.1 Ck) s2.1, Ch.ro 0 (Sl He Hc Hf) Hc, Ch.bx Hg Hi Hj [(Sl He Hc Hf)] Hk Hl, Ch.ro 0 (Sl Hm Hd Hn) Hd, Ch.bx Ho Hq Hr [(Sl Hm Hd Hn)] Ht Hu] ∧ s2.1.length = Cf.length) ⟨_, σ0, fr_join ⟨rfl, rfl, rfl, rfl, rfl, rfl, trivial⟩, rfl, H.sel' [0, 2, 1, 4, 3] rfl rfl, rfl⟩ ?_)
  clear h H
  rintro s2 a w o ⟨ρ, σ3, rfl, rfl, H, hn4⟩ h hres
  refine c_seq (c_seq (rg (sm (I s2.2) rfl (sm (I Ha) rfl (st (v := (B (decide (s2.2 < Ha)))) (rv_lss (a := s2.2) (b := Ha) rfl rfl) (w_end (q_then ?_)))))))
  refine cd_cond (decide (s2.2 < Ha)) rfl (fun hb5 => ?_) (fun hb5 => ?_)
  ·replace h := bif_t hb5 h
   refine c_skip (q_then (c_seq (c_blk ?_)))
   revert h; refine br fun x6 hx7 h => ?_
   obtain ⟨b9, o10, hi8, -⟩ := (H.own 0 rfl).ix hx7
   have hc11 := ((H.own 0 rfl).at hx7 hi8).int
   revert h; refine br fun x12 hx13 h => ?_
   obtain ⟨b15, o16, hi14, -⟩ := (H.own 0 rfl).ix hx13
   have hc17 := ((H.own 0 rfl).at hx13 hi14).int
   revert h; refine br fun x18 hx19 h => ?_
   obtain ⟨b21, o22, hi20, -⟩ := (H.own 0 rfl).ix hx19
   have Hs := H
   refine rg2 (σ := σ3) (Nm := Unit) 22 [21] [[false], [true]] [[(0, 0)], [(0, 0)], [(0, 0)], [(0, 0)], [(0, 0), (1, 1)], [(0, 0), (1, 1)], [(0, 0), (1, 1)], [(0, 0), (1, 1)], [(0, 0)], [(0, 0)], [(0, 0)], [(0, 0)], [(0, 0)], [(0, 0)], [(0, 0)], [(0, 0)], [(0, 0)], [(0, 0)], [(0, 0)], [(0, 0)], [(0, 0)], [(0, 1)]] 1 [fun _ => fun σm => Hp S0 σ0 σm [Ch.own 0 0 (Sl Cj s2.1 Ck) s2.1, Ch.ro 0 (Sl He Hc Hf) Hc, Ch.bx Hg Hi Hj [(Sl He Hc Hf)] Hk Hl, Ch.ro 0 (Sl Hm Hd Hn) Hd, Ch.bx Ho Hq Hr [(Sl Hm Hd Hn)] Ht Hu] ∧ Md (cov []) σ3 σm, fun _ => fun σm => Hp S0 σ0 σm [Ch.own 0 0 (Sl Cj s2.1 Ck) (s2.1.set (w64 (Cg + s2.2)).toNat x6), Ch.ro 0 (Sl He Hc Hf) Hc, Ch.bx Hg Hi Hj [(Sl He Hc Hf)] Hk Hl, Ch.ro 0 (Sl Hm Hd Hn) Hd, Ch.bx Ho Hq Hr [(Sl Hm Hd Hn)] Ht Hu] ∧ Md (fun i => (cov []) i ∨ (fun b => blk (Sl Cj s2.1 Ck) = some b) i) σ3 σm] [fun _ => (Sl Cj s2.1 Ck), fun _ => (I Cg), fun _ => (I s2.2), fun _ => (I (w64 (Cg + s2.2))), fun _ => (Sl Cj s2.1 Ck), fun _ => (I Ci), fun _ => (I s2.2), fun _ => (I (w64 (Ci + s2.2))), fun _ => (Sl Cj s2.1 Ck), fun _ => (I Ci), fun _ => (I s2.2), fun _ => (I (w64 (Ci + s2.2))), fun _ => (pt b9 o10), fun _ => (I x6), fun _ => (Sl Cj s2.1 Ck), fun _ => (I Cg), fun _ => (I s2.2), fun _ => (I (w64 (Cg + s2.2))), fun _ => (pt b15 o16), fun _ => (I x12), fun _ => (pt b21 o22), fun _ => undef] () (by kernel_rfl) (by kernel_rfl) ?_ ?_ ?_
   ·intro σm m0
    exact ⟨H.grow (m0.mono fun _ h => h.elim), m0⟩
   ·refine ac rfl (by
      intro k _nm ρ σm hJ hoff hdep
      have e0 := look_off (N := 38) (hoff 0 rfl) rfl
      exact dp_v (v := (Sl Cj s2.1 Ck)) wn (rv_move e0) rfl hJ) ?_
    refine ac rfl (by
      intro k _nm ρ σm hJ hoff hdep
      have e1 := look_off (N := 38) (hoff 1 rfl) rfl
      exact dp_v (v := (I Cg)) wn (rv_move e1) rfl hJ) ?_
    refine ac rfl (by
      intro k _nm ρ σm hJ hoff hdep
      have e10 := look_off (N := 38) (hoff 10 rfl) rfl
      exact dp_v (v := (I s2.2)) wn (rv_move e10) rfl hJ) ?_
    refine ac rfl (by
      intro k _nm ρ σm hJ hoff hdep
      have e17 := hdep 1 rfl rfl 17 rfl
      have e18 := hdep 2 rfl rfl 18 rfl
      exact dp_v (v := (I (w64 (Cg + s2.2)))) wn (rv_add (a := Cg) (b := s2.2) e17 e18) rfl hJ) ?_
    refine ac rfl (by
      intro k _nm ρ σm hJ hoff hdep
      have e0 := look_off (N := 38) (hoff 0 rfl) rfl
      exact dp_v (v := (Sl Cj s2.1 Ck)) wn (rv_move e0) rfl hJ) ?_
    refine ac rfl (by
      intro k _nm ρ σm hJ hoff hdep
      have e2 := look_off (N := 38) (hoff 2 rfl) rfl
      exact dp_v (v := (I Ci)) wn (rv_move e2) rfl hJ) ?_
    refine ac rfl (by
      intro k _nm ρ σm hJ hoff hdep
      have e10 := look_off (N := 38) (hoff 10 rfl) rfl
      exact dp_v (v := (I s2.2)) wn (rv_move e10) rfl hJ) ?_
    refine ac rfl (by
      intro k _nm ρ σm hJ hoff hdep
      have e21 := hdep 5 rfl rfl 21 rfl
      have e22 := hdep 6 rfl rfl 22 rfl
      exact dp_v (v := (I (w64 (Ci + s2.2)))) wn (rv_add (a := Ci) (b := s2.2) e21 e22) rfl hJ) ?_
    refine ac rfl (by
      intro k _nm ρ σm hJ hoff hdep
      have e0 := look_off (N := 38) (hoff 0 rfl) rfl
      exact dp_v (v := (Sl Cj s2.1 Ck)) wn (rv_move e0) rfl hJ) ?_
    refine ac rfl (by
      intro k _nm ρ σm hJ hoff hdep
      have e2 := look_off (N := 38) (hoff 2 rfl) rfl
      exact dp_v (v := (I Ci)) wn (rv_move e2) rfl hJ) ?_
    refine ac rfl (by
      intro k _nm ρ σm hJ hoff hdep
      have e10 := look_off (N := 38) (hoff 10 rfl) rfl
      exact dp_v (v := (I s2.2)) wn (rv_move e10) rfl hJ) ?_
    refine ac rfl (by
      intro k _nm ρ σm hJ hoff hdep
      have e25 := hdep 9 rfl rfl 25 rfl
      have e26 := hdep 10 rfl rfl 26 rfl
      exact dp_v (v := (I (w64 (Ci + s2.2)))) wn (rv_add (a := Ci) (b := s2.2) e25 e26) rfl hJ) ?_
    refine ac rfl (by
      intro k _nm ρ σm hJ hoff hdep
      have e24 := hdep 8 rfl rfl 24 rfl
      have e27 := hdep 11 rfl rfl 27 rfl
      exact dp_v (v := (pt b9 o10)) wn (rv_ix Tryz.underlying24 ti3 e24 e27 hi8) rfl hJ) ?_
    refine all_cons (by
      refine ⟨?_, ?_⟩
      ·intro _nm ρ σm hJ hoff hdep
       have e28 := hdep 12 rfl rfl 28 rfl
       obtain ⟨H, m⟩ := id hJ
       have hc11 := ((H.own 0 rfl).at hx7 hi8).int
       exact dp_v (v := (I x6)) wn (rv_load1 Tryz.underlying3 rfl e28 hc11) rfl hJ
      trivial) ?_
    refine ac rfl (by
      intro k _nm ρ σm hJ hoff hdep
      have e0 := look_off (N := 38) (hoff 0 rfl) rfl
      exact dp_v (v := (Sl Cj s2.1 Ck)) wn (rv_move e0) rfl hJ) ?_
    refine ac rfl (by
      intro k _nm ρ σm hJ hoff hdep
      have e1 := look_off (N := 38) (hoff 1 rfl) rfl
      exact dp_v (v := (I Cg)) wn (rv_move e1) rfl hJ) ?_
    refine ac rfl (by
      intro k _nm ρ σm hJ hoff hdep
      have e10 := look_off (N := 38) (hoff 10 rfl) rfl
      exact dp_v (v := (I s2.2)) wn (rv_move e10) rfl hJ) ?_
    refine ac rfl (by
      intro k _nm ρ σm hJ hoff hdep
      have e31 := hdep 15 rfl rfl 31 rfl
      have e32 := hdep 16 rfl rfl 32 rfl
      exact dp_v (v := (I (w64 (Cg + s2.2)))) wn (rv_add (a := Cg) (b := s2.2) e31 e32) rfl hJ) ?_
    refine ac rfl (by
      intro k _nm ρ σm hJ hoff hdep
      have e30 := hdep 14 rfl rfl 30 rfl
      have e33 := hdep 17 rfl rfl 33 rfl
      exact dp_v (v := (pt b15 o16)) wn (rv_ix Tryz.underlying24 ti3 e30 e33 hi14) rfl hJ) ?_
    refine all_cons (by
      refine ⟨?_, ?_⟩
      ·intro _nm ρ σm hJ hoff hdep
       have e34 := hdep 18 rfl rfl 34 rfl
       obtain ⟨H, m⟩ := id hJ
       have hc17 := ((H.own 0 rfl).at hx13 hi14).int
       exact dp_v (v := (I x12)) wn (rv_load1 Tryz.underlying3 rfl e34 hc17) rfl hJ
      trivial) ?_
    refine ac rfl (by
      intro k _nm ρ σm hJ hoff hdep
      have e16 := hdep 0 rfl rfl 16 rfl
      have e19 := hdep 3 rfl rfl 19 rfl
      exact dp_v (v := (pt b21 o22)) wn (rv_ix Tryz.underlying24 ti3 e16 e19 hi20) rfl hJ) ?_
    refine all_cons (by
      refine ⟨?_, ?_⟩
      ·intro _nm ρ σm hJ hoff hdep
       have e36 := hdep 20 rfl rfl 36 rfl
       have e29 := hdep 13 rfl rfl 29 rfl
       obtain ⟨H, m⟩ := id hJ
       refine dp_exS wn rfl (ex_store_own (e' := x6) (vs := [(I x6)]) (k := 0) H (i := 0) rfl ti3 hx19 hi20 e36 rfl e29 rfl rfl (Nat.le_of_ble_eq_true rfl) (by simp [plain]) (by rintro _ rfl; exact rfl)) ?_
       rintro σq ⟨H2, m2⟩
       exact ⟨_, (), rfl, ⟨H2.sel' [0, 1, 2, 3, 4] rfl rfl, m.comp m2⟩, stab [0, 1, 2, 3, 4, 5, 6, 7, 8, 9, 10, 11, 12, 13, 14, 15, 16, 17, 18, 19, 20] (by kernel_rfl) ⟨rfl, rfl, rfl, rfl, rfl, rfl, rfl, rfl, rfl, rfl, rfl, rfl, rfl, rfl, rfl, rfl, rfl, rfl, rfl, rfl, rfl, trivial⟩⟩
      trivial) ?_
    exact all_nil
   ·intro _nm ρ σ23 hJ hoff hrel
    have e0 := look_off (N := 38) (hoff 0 rfl) rfl
    have e1 := look_off (N := 38) (hoff 1 rfl) rfl
    have e2 := look_off (N := 38) (hoff 2 rfl) rfl
    have e3 := look_off (N := 38) (hoff 3 rfl) rfl
    have e4 := look_off (N := 38) (hoff 4 rfl) rfl
    have e10 := look_off (N := 38) (hoff 10 rfl) rfl
    have e20 := hrel 4 rfl 20 rfl
    have e23 := hrel 7 rfl 23 rfl
    have e35 := hrel 19 rfl 35 rfl
    obtain ⟨H, -⟩ := (show Hp S0 σ0 σ23 [Ch.own 0 0 (Sl Cj s2.1 Ck) (s2.1.set (w64 (Cg + s2.2)).toNat x6), Ch.ro 0 (Sl He Hc Hf) Hc, Ch.bx Hg Hi Hj [(Sl He Hc Hf)] Hk Hl, Ch.ro 0 (Sl Hm Hd Hn) Hd, Ch.bx Ho Hq Hr [(Sl Hm Hd Hn)] Ht Hu] ∧ Md (fun i => (cov []) i ∨ (fun b => blk (Sl Cj s2.1 Ck) = some b) i) σ3 σ23 from hJ)
    clear hJ Hs
    rw [fr_lookL (L := [(0, (Sl Cj s2.1 Ck)), (1, (I Cg)), (2, (I Ci)), (3, (I Ha)), (4, (.func (.func 111) #[] #[(pt Hi Hj), (pt Hq Hr)])), (10, (I s2.2)), (20, (Sl Cj s2.1 Ck)), (23, (I (w64 (Ci + s2.2)))), (35, (I x12))]) ⟨e0, e1, e2, e3, e4, e10, e20, e23, e35, trivial⟩]
    clear hoff hrel e0 e1 e2 e3 e4 e10 e20 e23 e35
    have hsl : (Sl Cj s2.1 Ck) = (Sl Cj (s2.1.set (w64 (Cg + s2.2)).toNat x6) Ck) := sl_len (by simp)
    rw [hsl]; rw [hsl] at H; clear hsl
    revert h; refine br fun x24 hx25 h => ?_
    obtain ⟨b27, o28, hi26, -⟩ := (H.own 0 rfl).ix hx25
    refine st (v := (pt b27 o28)) (rv_ix Tryz.underlying24 ti3 rfl rfl hi26) ?_
    refine st_exS (ex_store_own (e' := x12) (vs := [(I x12)]) (k := 0) H (i := 0) rfl ti3 hx25 hi26 rfl rfl rfl rfl rfl (Nat.le_of_ble_eq_true rfl) (by simp [plain]) (by rintro _ rfl; exact rfl)) wn ?_
    rintro σ29 ⟨H, -⟩
    have hsl : (Sl Cj (s2.1.set (w64 (Cg + s2.2)).toNat x6) Ck) = (Sl Cj ((s2.1.set (w64 (Cg + s2.2)).toNat x6).set (w64 (Ci + s2.2)).toNat x12) Ck) := sl_len List.length_set.symm
    rw [hsl]; rw [hsl] at H; clear hsl
    refine w_end (q_blk (q_then (rg (sm (I s2.2) rfl (st (v := (I (w64 (s2.2 + 1)))) (rv_add (a := s2.2) (b := 1) rfl rfl) (sa (I (w64 (s2.2 + 1))) rfl (w_end (q_then ?_))))))))
    obtain rfl := sj h
    exact ⟨_, rfl, _, σ29, fr_join ⟨rfl, rfl, rfl, rfl, rfl, rfl, trivial⟩, rfl, H.sel' [0, 1, 2, 3, 4] rfl rfl, (List.length_set.trans (List.length_set.trans hn4))⟩
  ·replace h := bif_f hb5 h
   refine c_exit (q_then_x (q_then_x (q_blk_hit ?_)))
   obtain rfl := sj h
   obtain rfl := hres _ rfl
   exact ⟨rfl, _, σ3, fr_join ⟨rfl, rfl, trivial⟩, rfl, H.sel' [0, 1, 2, 3, 4] rfl rfl, hn4⟩
 ·clear hj
  have h := h'
  clear h' H
  rintro e a w ⟨rfl, ρ, σ30, rfl, rfl, H, hn31⟩
  obtain rfl := sj h
  exact fin_end (v := (.tuple #[])) (results_ok Tryz.results160 res_nil rfl) ⟨rfl, rfl, hn31⟩ (H.sel' [0, 2, 4] rfl rfl)

theorem c_slices_rotateCmpFunc_int__impl_ProbeOrder_1 {Cf : List Int} {Cg : Int} {Hv : Int} {Hw : Int} {Hc : List (List Int)} {Hd : List Int} {Cj : Option Addr} {Ck : Nat} {He : Option Addr} {Hf : Nat} {Hg Hi Hj : Nat} {Hk Hl : List Value} {Hm : Option Addr} {Hn : Nat} {Ho Hq Hr : Nat} {Ht Hu : List Value} {r : (List Int)} (h : M.slices_rotateCmpFunc_int__impl_ProbeOrder_1 Cf Cg Hv Hw Hc Hd = some r) :
    Cal2 Tryz.prog 157 [(Sl Cj Cf Ck), (I Cg), (I Hv), (I Hw), (.func (.func 111) #[] #[(pt Hi Hj), (pt Hq Hr)])] [Ch.own 0 0 (Sl Cj Cf Ck) Cf, Ch.bx Hg Hi Hj [(Sl He Hc Hf)] Hk Hl, Ch.ro 0 (Sl He Hc Hf) Hc, Ch.bx Ho Hq Hr [(Sl Hm Hd Hn)] Ht Hu, Ch.ro 0 (Sl Hm Hd Hn) Hd] (fun n0 v L => v = (.tuple #[]) ∧ L = [Ch.own 0 0 (Sl Cj r Ck) r, Ch.bx Hg Hi Hj [(Sl He Hc Hf)] Hk Hl, Ch.bx Ho Hq Hr [(Sl Hm Hd Hn)] Ht Hu] ∧ r.length = Cf.length) := by
 refine cal2 (n := 58) Tryz.func157 rfl rfl rfl rfl ?_
 intro S0 σ0 n0 hn0 H
 unfold M.slices_rotateCmpFunc_int__impl_ProbeOrder_1 at h
 refine c_seq (rg (sm (I Hv) rfl (sm (I Cg) rfl (st (v := (I (w64 (Hv - Cg)))) (rv_sub (a := Hv) (b := Cg) rfl rfl) (sa (I (w64 (Hv - Cg))) rfl (w_end (q_then (c_seq (rg (sm (I Hw) rfl (sm (I Hv) rfl ?_)))))))))))
 refine st (v := (I (w64 (Hw - Hv)))) (rv_sub (a := Hw) (b := Hv) rfl rfl) (sa (I (w64 (Hw - Hv))) rfl (w_end (q_then (c_seq ?_))))
 obtain ⟨o1, hj, h'⟩ := bind_some h
 clear h
 refine c_cut (fun e a w => e = .normal ∧ ∃ (ρ : Nat → Value) (σ : St), a = fr 58 (updL ρ [(0, (Sl Cj o1.1 Ck)), (2, (I Hv)), (4, (.func (.func 111) #[] #[(pt Hi Hj), (pt Hq Hr)])), (10, (I o1.2))]) ∧ w = σ.w ∧ Hp S0 σ0 σ [Ch.own 0 0 (Sl Cj o1.1 Ck) o1.1, Ch.ro 0 (Sl He Hc Hf) Hc, Ch.bx Hg Hi Hj [(Sl He Hc Hf)] Hk Hl, Ch.ro 0 (Sl Hm Hd Hn) Hd, Ch.bx Ho Hq Hr [(Sl Hm Hd Hn)] Ht Hu] ∧ o1.1.length = Cf.length) ?_ ?_
 ·clear h'
  rename _ = some o1 => h
  refine c_blk (wp_loopM _ h (fun s2 a w => ∃ (ρ : Nat → Value) (σ : St), a = fr 58 (updL ρ [(0, (Sl Cj s2.1 Ck)), (2, (I Hv)), (4, (.func (.func 111) #[] #[(pt Hi Hj), (pt Hq Hr)])), (10, (I s2.2.1)), (11, (I s2.2.2))]) ∧ w = σ.w ∧ Hp S0 σ0 σ [Ch.own 0 0 (Sl Cj s2.1 Ck) s2.1, Ch.ro 0 (Sl He Hc Hf) Hc, Ch.bx Hg Hi Hj [(Sl He Hc Hf)] Hk Hl, Ch.ro 0 (Sl Hm Hd Hn) Hd, Ch.bx Ho Hq Hr [(Sl Hm Hd Hn)] Ht Hu] ∧ s2.1.length = Cf.length) ⟨_, σ0, fr_join ⟨rfl, rfl, rfl, rfl, rfl, trivial⟩, rfl, H.sel' [0, 2, 1, 4, 3] rfl rfl, rfl⟩ ?_)
  clear h H
  rintro s2 a w o ⟨ρ, σ3, rfl, rfl, H, hn4⟩ h hres
  refine c_seq (c_seq (rg (sm (I s2.2.1) rfl (sm (I s2.2.2) rfl (st (v := (B (s2.2.1 != s2.2.2))) (rv_neq (a := s2.2.1) (b := s2.2.2) rfl rfl) (w_end (q_then ?_)))))))
  refine cd_cond (s2.2.1 != s2.2.2) rfl (fun hb5 => ?_) (fun hb5 => ?_)
  ·replace h := bif_t hb5 h
   refine c_skip (q_then (c_blk (c_seq (rg (sm (I s2.2.1) rfl (sm (I s2.2.2) rfl (st (v := (B (decide (s2.2.2 < s2.2.1)))) (rv_gtr (a := s2.2.1) (b := s2.2.2) rfl rfl) (w_end (q_then ?_)))))))))
   refine cd_cond (decide (s2.2.2 < s2.2.1)) rfl (fun hb6 => ?_) (fun hb6 => ?_)
   ·replace h := bif_t hb6 h
    refine c_seq (rg (sm (Sl Cj s2.1 Ck) rfl (sm (I Hv) rfl (sm (I s2.2.1) rfl (st (v := (I (w64 (Hv - s2.2.1)))) (rv_sub (a := Hv) (b := s2.2.1) rfl rfl) (sm (I Hv) rfl (sm (I s2.2.2) rfl (sm (.func (.func 111) #[] #[(pt Hi Hj), (pt Hq Hr)]) rfl ?_))))))))
    revert h; refine br fun r7 hx8 h => ?_
    have hc9 := c_slices_swapRangeCmpFunc_int__impl_ProbeOrder_1 (Cj := Cj) (Ck := Ck) (Hg := Hg) (Hi := Hi) (Hj := Hj) (Hk := Hk) (Hl := Hl) (He := He) (Hf := Hf) (Ho := Ho) (Hq := Hq) (Hr := Hr) (Ht := Ht) (Hu := Hu) (Hm := Hm) (Hn := Hn) hx8
    refine st_call (cx_call hc9 (ent_f hc9.fn rfl) hn0 (H.sel' [0, 2, 1, 4, 3, 1, 3] rfl rfl : Hp S0 σ0 _ ([_, _, _, _, _] ++ _))) wn ?_
    rintro _ σ11 ⟨_, ⟨rfl, rfl, hn10⟩, H, -⟩
    replace H : Hp _ _ _ [_, _, _, _, _] := H
    have hsl : (Sl Cj s2.1 Ck) = (Sl Cj r7 Ck) := sl_len hn10.symm
    try rw [hsl]
    try rw [hsl] at H
    clear hsl
    refine w_end (q_then (rg (sm (I s2.2.1) rfl (sm (I s2.2.2) rfl (st (v := (I (w64 (s2.2.1 - s2.2.2)))) (rv_sub (a := s2.2.1) (b := s2.2.2) rfl rfl) (sa (I (w64 (s2.2.1 - s2.2.2))) rfl (w_end (q_blk (q_then ?_)))))))))
    obtain rfl := sj h
    exact ⟨_, rfl, _, σ11, fr_join ⟨rfl, rfl, rfl, rfl, rfl, trivial⟩, rfl, H.sel' [0, 3, 1, 4, 2] rfl rfl, (hn10.trans hn4)⟩
   ·replace h := bif_f hb6 h
    refine c_seq (rg (sm (Sl Cj s2.1 Ck) rfl (sm (I Hv) rfl (sm (I s2.2.1) rfl (st (v := (I (w64 (Hv - s2.2.1)))) (rv_sub (a := Hv) (b := s2.2.1) rfl rfl) (sm (I Hv) rfl (sm (I s2.2.2) rfl (st (v := (I (w64 (Hv + s2.2.2)))) (rv_add (a := Hv) (b := s2.2.2) rfl rfl) (sm (I s2.2.1) rfl (st (v := (I (w64 ((w64 (Hv + s2.2.2)) - s2.2.1)))) (rv_sub (a := (w64 (Hv + s2.2.2))) (b := s2.2.1) rfl rfl) (sm (I s2.2.1) rfl ?_)))))))))))
    refine sm (.func (.func 111) #[] #[(pt Hi Hj), (pt Hq Hr)]) rfl ?_
    revert h; refine br fun r12 hx13 h => ?_
    have hc14 := c_slices_swapRangeCmpFunc_int__impl_ProbeOrder_1 (Cj := Cj) (Ck := Ck) (Hg := Hg) (Hi := Hi) (Hj := Hj) (Hk := Hk) (Hl := Hl) (He := He) (Hf := Hf) (Ho := Ho) (Hq := Hq) (Hr := Hr) (Ht := Ht) (Hu := Hu) (Hm := Hm) (Hn := Hn) hx13
    refine st_call (cx_call hc14 (ent_f hc14.fn rfl) hn0 (H.sel' [0, 2, 1, 4, 3, 1, 3] rfl rfl : Hp S0 σ0 _ ([_, _, _, _, _] ++ _))) wn ?_
    rintro _ σ16 ⟨_, ⟨rfl, rfl, hn15⟩, H, -⟩
    replace H : Hp _ _ _ [_, _, _, _, _] := H
    have hsl : (Sl Cj s2.1 Ck) = (Sl Cj r12 Ck) := sl_len hn15.symm
    try rw [hsl]
    try rw [hsl] at H
    clear hsl
    refine w_end (q_then (rg (sm (I s2.2.2) rfl (sm (I s2.2.1) rfl (st (v := (I (w64 (s2.2.2 - s2.2.1)))) (rv_sub (a := s2.2.2) (b := s2.2.1) rfl rfl) (sa (I (w64 (s2.2.2 - s2.2.1))) rfl (w_end (q_blk (q_then ?_)))))))))
    obtain rfl := sj h
    exact ⟨_, rfl, _, σ16, fr_join ⟨rfl, rfl, rfl, rfl, rfl, trivial⟩, rfl, H.sel' [0, 3, 1, 4, 2] rfl rfl, (hn15.trans hn4)⟩
  ·replace h := bif_f hb5 h
   refine c_exit (q_then_x (q_then_x (q_blk_hit ?_)))
   obtain rfl := sj h
   obtain rfl := hres _ rfl
   exact ⟨rfl, _, σ3, fr_join ⟨rfl, rfl, rfl, rfl, trivial⟩, rfl, H.sel' [0, 1, 2, 3, 4] rfl rfl, hn4⟩
 ·clear hj
  have h := h'
  clear h' H
  rintro e a w ⟨rfl, ρ, σ17, rfl, rfl, H, hn18⟩
  refine q_then (rg (sm (Sl Cj o1.1 Ck) rfl (sm (I Hv) rfl (sm (I o1.2) rfl (st (v := (I (w64 (Hv - o1.2)))) (rv_sub (a := Hv) (b := o1.2) rfl rfl) (sm (I Hv) rfl (sm (I o1.2) rfl (sm (.func (.func 111) #[] #[(pt Hi Hj), (pt Hq Hr)]) rfl ?_))))))))
  revert h; refine br fun r19 hx20 h => ?_
  have hc21 := c_slices_swapRangeCmpFunc_int__impl_ProbeOrder_1 (Cj := Cj) (Ck := Ck) (Hg := Hg) (Hi := Hi) (Hj := Hj) (Hk := Hk) (Hl := Hl) (He := He) (Hf := Hf) (Ho := Ho) (Hq := Hq) (Hr := Hr) (Ht := Ht) (Hu := Hu) (Hm := Hm) (Hn := Hn) hx20
  refine st_call (cx_call hc21 (ent_f hc21.fn rfl) hn0 (H.sel' [0, 2, 1, 4, 3, 1, 3] rfl rfl : Hp S0 σ0 _ ([_, _, _, _, _] ++ _))) wn ?_
  rintro _ σ23 ⟨_, ⟨rfl, rfl, hn22⟩, H, -⟩
  replace H : Hp _ _ _ [_, _, _, _, _] := H
  have hsl : (Sl Cj o1.1 Ck) = (Sl Cj r19 Ck) := sl_len hn22.symm
  try rw [hsl]
  try rw [hsl] at H
  clear hsl
  refine w_end ?_
  obtain rfl := sj h
  exact fin_end (v := (.tuple #[])) (results_ok Tryz.results157 res_nil rfl) ⟨rfl, rfl, (hn22.trans hn18)⟩ (H.sel' [0, 1, 2] rfl rfl)

end Go.Vs
