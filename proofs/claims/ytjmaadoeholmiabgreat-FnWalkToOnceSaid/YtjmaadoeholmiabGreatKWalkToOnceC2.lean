/- The functions compute what their models say. -/
import Derived.Test.YtjmaadoeholmiabGreatKWalkToOnceC1
set_option linter.unusedVariables false
set_option linter.unusedSimpArgs false
set_option maxRecDepth 20000
namespace Go.Vs
open Go Go.Proofs
attribute [local irreducible] Code.wp Code.wpIn wpList wpListIn wpQuiet Calls CallsIn

theorem c_spec_someStore {Ae : (List UInt8) × Int} {Ag : Option Addr} {Ah : Nat} {Ai Aj Ak : Nat} {Am Ao : List Value} {r : (List (Int × (List Int) × Int)) × ((List UInt8) × Int)} (h : M.spec_someStore Ae = some r) :
    Cal2 Tryz.prog 60 [(pt Aj Ak)] [Ch.bx Ai Aj Ak [(Sl Ag Ae.1 Ah), (I Ae.2)] Am Ao, Ch.ro 0 (Sl Ag Ae.1 Ah) Ae.1] (fun n0 v L => ∃ (az1 : Option Addr), ∃ (cz2 : Nat), ∃ (az3 : Option Addr), ∃ (cz4 : Nat), v = (Sl az1 r.1 cz2) ∧ L = [Ch.own n0 n0 (Sl az1 r.1 cz2) r.1, Ch.bx Ai Aj Ak [(Sl az3 r.2.1 cz4), (I r.2.2)] Am Ao, Ch.ro 0 (Sl az3 r.2.1 cz4) r.2.1]) := by
 refine cal2 (n := 25) Tryz.func60 rfl rfl rfl rfl ?_
 intro S0 σ0 n0 hn0 H
 unfold M.spec_someStore at h
 refine c_seq (rg (sa (.slice none 0 0) rfl (w_end (q_then (c_seq (rg ?_))))))
 refine st_ex (ex_buildSlice (el := n0) (xs := ([] : List (Int × (List Int) × Int))) (ps := []) (cs := []) H hn0 Tryz.underlying23 ti34 rfl rfl (by kernel_rfl) (.nil) rfl) wn ?_
 rintro _ σ2 ⟨b1, rfl, H, -⟩
 refine sa (Sl (some ⟨b1, 0, none⟩) ([] : List (Int × (List Int) × Int)) 0) rfl (w_end (q_then (c_seq (c_seq (rg (sm (pt Aj Ak) rfl ?_))))))
 refine st_ex (ex_buildSlice (el := n0) (xs := ([4, 6, 8, 3, 1, 0, 20, 12] : List Int)) (ps := [(0, (I 4)), (1, (I 6)), (2, (I 8)), (3, (I 3)), (4, (I 1)), (5, (I 0)), (6, (I 20)), (7, (I 12))]) (cs := [(I 4), (I 6), (I 8), (I 3), (I 1), (I 0), (I 20), (I 12)]) H hn0 Tryz.underlying26 ti3 rfl rfl (by kernel_rfl) (.cons (c := [(I 4)]) rfl (.cons (c := [(I 6)]) rfl (.cons (c := [(I 8)]) rfl (.cons (c := [(I 3)]) rfl (.cons (c := [(I 1)]) rfl (.cons (c := [(I 0)]) rfl (.cons (c := [(I 20)]) rfl (.cons (c := [(I 12)]) rfl (.nil))))))))) rfl) wn ?_
 rintro _ σ4 ⟨b3, rfl, H, -⟩
 obtain ⟨σ5, hw6, H, -⟩ := H.pub 0 rfl (Nat.le_refl _)
 rw [← hw6]; clear hw6
 replace H := H.roLow 0 0 rfl (Nat.zero_le _)
 revert h; refine br fun r7 hx8 h => ?_
 have hc9 := c_spec_reader_one (Ai := Ai) (Aj := Aj) (Ak := Ak) (Am := Am) (Ao := Ao) (Ag := Ag) (Ah := Ah) (Aq := (some ⟨b3, 0, none⟩)) (Ar := 8) hx8
 refine st_call (cx_call hc9 (ent_f hc9.fn rfl) hn0 (H.sel' [3, 4, 0, 0, 1, 2, 4] rfl rfl : Hp S0 σ0 _ ([_, _, _] ++ _))) wn ?_
 rintro _ σ12 ⟨_, ⟨a10, c11, rfl, rfl⟩, H, -⟩
 replace H : Hp _ _ _ [_, _, _, _, _, _] := H
 refine sa (I r7.1) rfl (w_end (q_then ?_))
 obtain ⟨o13, hj, h'⟩ := bind_some h
 clear h
 refine c_cut (fun e a w => e = .normal ∧ ∃ (ρ : Nat → Value) (σ : St) (aj1 : Option Addr) (cj2 : Nat) (aj3 : Option Addr) (cj4 : Nat), a = fr 25 (updL ρ [(0, (pt Aj Ak)), (3, (Sl aj3 o13.2 cj4))]) ∧ w = σ.w ∧ Hp S0 σ0 σ [Ch.bx Ai Aj Ak [(Sl aj1 o13.1.1 cj2), (I o13.1.2)] Am Ao, Ch.ro 0 (Sl aj1 o13.1.1 cj2) o13.1.1, Ch.own n0 n0 (Sl aj3 o13.2 cj4) o13.2]) ?_ ?_
 ·clear h'
  rename _ = some o13 => h
  refine c_blk (wp_loopM _ h (fun s14 a w => ∃ (ρ : Nat → Value) (σ : St) (aj1 : Option Addr) (cj2 : Nat) (aj3 : Option Addr) (cj4 : Nat), a = fr 25 (updL ρ [(0, (pt Aj Ak)), (3, (Sl aj3 s14.2.1 cj4)), (4, (I s14.2.2))]) ∧ w = σ.w ∧ Hp S0 σ0 σ [Ch.bx Ai Aj Ak [(Sl aj1 s14.1.1 cj2), (I s14.1.2)] Am Ao, Ch.ro 0 (Sl aj1 s14.1.1 cj2) s14.1.1, Ch.own n0 n0 (Sl aj3 s14.2.1 cj4) s14.2.1]) ⟨_, σ12, a10, c11, (some ⟨b1, 0, none⟩), 0, fr_join ⟨rfl, rfl, rfl, trivial⟩, rfl, H.sel' [0, 1, 4] rfl rfl⟩ ?_)
  clear h H
  rintro s14 a w o ⟨ρ, σ15, a16, c17, a18, c19, rfl, rfl, H⟩ h hres
  refine c_seq (c_seq (rg (sm (I s14.2.2) rfl (st (v := (B (decide (0 < s14.2.2)))) (rv_gtr (a := s14.2.2) (b := 0) rfl rfl) (w_end (q_then ?_))))))
  refine cd_cond (decide (0 < s14.2.2)) rfl (fun hb20 => ?_) (fun hb20 => ?_)
  ·replace h := bif_t hb20 h
   refine c_skip (q_then (c_seq ?_))
   obtain ⟨o21, hj, h'⟩ := bind_some h
   clear h
   refine c_cut (fun e a w => e = .normal ∧ ∃ (ρ : Nat → Value) (σ : St) (aj1 : Option Addr) (cj2 : Nat) (aj3 : Option Addr) (cj4 : Nat), a = fr 25 (updL ρ [(0, (pt Aj Ak)), (3, (Sl aj3 o21.2 cj4)), (4, (I s14.2.2))]) ∧ w = σ.w ∧ Hp S0 σ0 σ [Ch.bx Ai Aj Ak [(Sl aj1 o21.1.1 cj2), (I o21.1.2)] Am Ao, Ch.ro 0 (Sl aj1 o21.1.1 cj2) o21.1.1, Ch.own n0 n0 (Sl aj3 o21.2 cj4) o21.2]) ?_ ?_
   ·clear h'
    rename _ = some o21 => h
    refine c_blk (c_seq (rg (sm (Sl a18 s14.2.1 c19) rfl (sm (pt Aj Ak) rfl ?_))))
    revert h; refine br fun r22 hx23 h => ?_
    have hc24 := c_spec_someItem (Ai := Ai) (Aj := Aj) (Ak := Ak) (Am := Am) (Ao := Ao) (Ag := a16) (Ah := c17) hx23
    refine st_call (cx_call hc24 (ent_f hc24.fn rfl) hn0 (H.sel' [0, 1, 1, 2] rfl rfl : Hp S0 σ0 _ ([_, _] ++ _))) wn ?_
    rintro _ σ29 ⟨_, ⟨a25, c26, a27, c28, rfl, rfl⟩, H, -⟩
    replace H : Hp _ _ _ [_, _, _, _, _] := H
    obtain ⟨σ30, hw31, H, -⟩ := H.pub 0 rfl (Nat.le_refl _)
    rw [← hw31]; clear hw31
    replace H := H.roLow 0 0 rfl (Nat.zero_le _)
    revert h; refine br fun r32 hx33 h => ?_
    have hc34 := c_spec_PutItem (Au := a18) (Av := c19) (Bh := a25) (Bi := c26) hx33
    have hle := Nat.le_trans hn0 H.size
    refine st_call (cx_lend (Loan.lend (Loan.same Loan.nil)) hc34 (ent_f hc34.fn rfl) (show Hp S0 σ0 _ ([Ch.own n0 n0 (Sl a18 s14.2.1 c19) s14.2.1] ++ ([Ch.ro 0 (Sl a25 r22.1.2.1 c26) r22.1.2.1] ++ [Ch.ro 0 (Sl a25 r22.1.2.1 c26) r22.1.2.1, Ch.ro n0 (Sl a25 r22.1.2.1 c26) r22.1.2.1, Ch.bx Ai Aj Ak [(Sl a27 r22.2.1 c28), (I r22.2.2)] Am Ao, Ch.ro 0 (Sl a27 r22.2.1 c28) r22.2.1, Ch.ro 0 (Sl a16 s14.1.1 c17) s14.1.1])) from (H.sel' [5, 0, 0, 1, 2, 3, 4] rfl rfl)) (by rintro _ _ _ ⟨_, _, rfl, rfl⟩; exact ⟨Ab.own (Nat.le_refl _), trivial⟩)) wn ?_
    rintro _ σ37 ⟨_, ⟨a35, c36, rfl, rfl⟩, H, -, -⟩
    replace H : Hp _ _ _ [_, _, _, _, _, _, _] := H
    replace H := H.ownLow 0 n0 n0 rfl hle hle
    clear hle
    replace H : Hp _ _ _ [_, _, _, _, _, _, _] := H
    refine sm (.tuple #[(Sl a35 r32.1 c36), (B r32.2)]) rfl (st (v := (Sl a35 r32.1 c36)) (rv_extract rfl rfl) (st (v := (B r32.2)) (rv_extract rfl rfl) (sa (Sl a35 r32.1 c36) rfl (sa (B r32.2) rfl (w_end (q_then (c_seq (rg (sm (B r32.2) rfl (w_end (q_then ?_)))))))))))
    refine cd_cond r32.2 rfl (fun hb38 => ?_) (fun hb38 => ?_)
    ·replace h := bif_t hb38 h
     refine rg (sm (Sl a35 r32.1 c36) rfl (sa (Sl a35 r32.1 c36) rfl (w_end (q_blk ?_))))
     obtain rfl := sj h
     exact ⟨rfl, _, σ37, a27, c28, a35, c36, fr_join ⟨rfl, rfl, rfl, trivial⟩, rfl, H.sel' [4, 5, 0] rfl rfl⟩
    ·replace h := bif_f hb38 h
     refine c_skip (q_blk ?_)
     obtain rfl := sj h
     exact ⟨rfl, _, σ37, a27, c28, a18, c19, fr_join ⟨rfl, rfl, rfl, trivial⟩, rfl, H.sel' [4, 5, 1] rfl rfl⟩
   ·clear hj
    have h := h'
    clear h' H
    rintro e a w ⟨rfl, ρ, σ39, a40, c41, a42, c43, rfl, rfl, H⟩
    refine q_then (rg (sm (I s14.2.2) rfl (st (v := (I (w64 (s14.2.2 - 1)))) (rv_sub (a := s14.2.2) (b := 1) rfl rfl) (sa (I (w64 (s14.2.2 - 1))) rfl (w_end (q_then ?_))))))
    obtain rfl := sj h
    exact ⟨_, rfl, _, σ39, a40, c41, a42, c43, fr_join ⟨rfl, rfl, rfl, trivial⟩, rfl, H.sel' [0, 1, 2] rfl rfl⟩
  ·replace h := bif_f hb20 h
   refine c_exit (q_then_x (q_then_x (q_blk_hit ?_)))
   obtain rfl := sj h
   obtain rfl := hres _ rfl
   exact ⟨rfl, _, σ15, a16, c17, a18, c19, fr_join ⟨rfl, rfl, trivial⟩, rfl, H.sel' [0, 1, 2] rfl rfl⟩
 ·clear hj
  have h := h'
  clear h' H
  rintro e a w ⟨rfl, ρ, σ44, a45, c46, a47, c48, rfl, rfl, H⟩
  refine q_then (c_seq (rg (sm (Sl a47 o13.2 c48) rfl (sa (Sl a47 o13.2 c48) rfl (w_end (q_then (c_ret ?_)))))))
  obtain rfl := sj h
  exact fin_ret (v := (Sl a47 o13.2 c48)) (results_ok Tryz.results60 (res_tmp (v := (Sl a47 o13.2 c48)) rfl res_nil) rfl) ⟨a47, c48, a45, c46, rfl, rfl⟩ (H.sel' [2, 0, 1] rfl rfl)

theorem c_spec_anyItem {Ae : (List UInt8) × Int} {Ag : Option Addr} {Ah : Nat} {Ai Aj Ak : Nat} {Am Ao : List Value} {r : (Int × (List Int) × Int) × ((List UInt8) × Int)} (h : M.spec_anyItem Ae = some r) :
    Cal2 Tryz.prog 62 [(pt Aj Ak)] [Ch.bx Ai Aj Ak [(Sl Ag Ae.1 Ah), (I Ae.2)] Am Ao, Ch.ro 0 (Sl Ag Ae.1 Ah) Ae.1] (fun n0 v L => ∃ (az1 : Option Addr), ∃ (cz2 : Nat), ∃ (az3 : Option Addr), ∃ (cz4 : Nat), v = (.agg #[(I r.1.1), (Sl az1 r.1.2.1 cz2), (I r.1.2.2)]) ∧ L = [Ch.own n0 n0 (Sl az1 r.1.2.1 cz2) r.1.2.1, Ch.bx Ai Aj Ak [(Sl az3 r.2.1 cz4), (I r.2.2)] Am Ao, Ch.ro 0 (Sl az3 r.2.1 cz4) r.2.1]) := by
 refine cal2 (n := 26) Tryz.func62 rfl rfl rfl rfl ?_
 intro S0 σ0 n0 hn0 H
 unfold M.spec_anyItem at h
 refine c_seq (rg (st_ex (ex_alloc (cs := [(I 0), (.slice none 0 0), (I 0)]) H hn0 ti34 rfl) wn ?_))
 rintro _ σ2 ⟨b1, rfl, H, -⟩
 refine w_end (q_then (c_seq (rg (sm (pt Aj Ak) rfl ?_))))
 revert h; refine br fun r3 hx4 h => ?_
 have hc5 := c_spec_someItem (Ai := Ai) (Aj := Aj) (Ak := Ak) (Am := Am) (Ao := Ao) (Ag := Ag) (Ah := Ah) hx4
 refine st_call (cx_call hc5 (ent_f hc5.fn rfl) hn0 (H.sel' [1, 2, 0, 2] rfl rfl : Hp S0 σ0 _ ([_, _] ++ _))) wn ?_
 rintro _ σ10 ⟨_, ⟨a6, c7, a8, c9, rfl, rfl⟩, H, -⟩
 replace H : Hp _ _ _ [_, _, _, _, _] := H
 refine st_ex (ex_alloc (cs := [(I 0), (.slice none 0 0), (I 0)]) H hn0 ti34 rfl) wn ?_
 rintro _ σ12 ⟨b11, rfl, H, -⟩
 refine st_exS (ex_store_box (k := 0) (cs := [(I 0), (.slice none 0 0), (I 0)]) (vs := [(I r3.1.1), (Sl a6 r3.1.2.1 c7), (I r3.1.2.2)]) (cs' := [(I r3.1.1), (Sl a6 r3.1.2.1 c7), (I r3.1.2.2)]) H (i := 0) rfl ti34 rfl rfl rfl rfl rfl (Nat.le_of_ble_eq_true rfl) (by simp [plain]) rfl) wn ?_
 rintro σ13 ⟨H, -⟩
 refine w_end (q_then (c_seq (c_seq (rg (sm (pt Aj Ak) rfl ?_)))))
 revert h; refine br fun r14 hx15 h => ?_
 have hc16 := c_spec_reader_pick (Ai := Ai) (Aj := Aj) (Ak := Ak) (Am := Am) (Ao := Ao) (Ag := a8) (Ah := c9) hx15
 refine st_call (cx_call hc16 (ent_f hc16.fn rfl) hn0 (H.sel' [2, 3, 0, 1, 3, 4, 5] rfl rfl : Hp S0 σ0 _ ([_, _] ++ _))) wn ?_
 rintro _ σ19 ⟨_, ⟨a17, c18, rfl, rfl⟩, H, -⟩
 replace H : Hp _ _ _ [_, _, _, _, _, _, _] := H
 refine w_end (q_then ?_)
 obtain ⟨o20, hj, h'⟩ := bind_some h
 clear h
 refine c_cut (fun e a w => e = .normal ∧ ∃ (ρ : Nat → Value) (σ : St) (aj1 : Option Addr) (cj2 : Nat) (aj3 : Option Addr) (cj4 : Nat), a = fr 26 (updL ρ [(0, (pt Aj Ak)), (2, (pt b1 0)), (3, (pt b11 0))]) ∧ w = σ.w ∧ Hp S0 σ0 σ [Ch.bx Ai Aj Ak [(Sl aj1 o20.1.1 cj2), (I o20.1.2)] Am Ao, Ch.ro 0 (Sl aj1 o20.1.1 cj2) o20.1.1, Ch.bx n0 b11 0 [(I o20.2.1), (Sl aj3 o20.2.2.1 cj4), (I o20.2.2.2)] [] [], Ch.own n0 n0 (Sl aj3 o20.2.2.1 cj4) o20.2.2.1, Ch.bx n0 b1 0 [(I 0), (.slice none 0 0), (I 0)] [] []]) ?_ ?_
 ·clear h'
  rename _ = some o20 => h
  refine c_blk (c_seq (rg (st (v := (B (r14.1 == 0))) (rv_eql (a := r14.1) (b := 0) rfl rfl) (sa (B (r14.1 == 0)) rfl (w_end (q_then ?_))))))
  refine cd_cond (r14.1 == 0) rfl (fun hb21 => ?_) (fun hb21 => ?_)
  ·replace h := bif_t hb21 h
   refine rg (sm (pt Aj Ak) rfl ?_)
   refine st_ex (ex_buildSlice (el := n0) (xs := ([0, 99, 100] : List Int)) (ps := [(0, (I 0)), (1, (I 99)), (2, (I 100))]) (cs := [(I 0), (I 99), (I 100)]) H hn0 Tryz.underlying26 ti3 rfl rfl (by kernel_rfl) (.cons (c := [(I 0)]) rfl (.cons (c := [(I 99)]) rfl (.cons (c := [(I 100)]) rfl (.nil)))) rfl) wn ?_
   rintro _ σ23 ⟨b22, rfl, H, -⟩
   replace H : Hp S0 σ0 σ23 [Ch.own n0 n0 (Sl (some ⟨b22, 0, none⟩) ([0, 99, 100] : List Int) 3) ([0, 99, 100] : List Int), Ch.bx Ai Aj Ak [(Sl a17 r14.2.1 c18), (I r14.2.2)] Am Ao, Ch.ro 0 (Sl a17 r14.2.1 c18) r14.2.1, Ch.bx n0 b11 0 [(I r3.1.1), (Sl a6 r3.1.2.1 c7), (I r3.1.2.2)] [] [], Ch.own n0 n0 (Sl a6 r3.1.2.1 c7) r3.1.2.1, Ch.bx n0 b1 0 [(I 0), (.slice none 0 0), (I 0)] [] []] := H.sel' [0, 1, 2, 3, 4, 6] rfl rfl
   obtain ⟨σ24, hw25, H, -⟩ := H.pub 0 rfl (Nat.le_refl _)
   rw [← hw25]; clear hw25
   replace H := H.roLow 0 0 rfl (Nat.zero_le _)
   revert h; refine br fun r26 hx27 h => ?_
   have hc28 := c_spec_reader_one (Ai := Ai) (Aj := Aj) (Ak := Ak) (Am := Am) (Ao := Ao) (Ag := a17) (Ah := c18) (Aq := (some ⟨b22, 0, none⟩)) (Ar := 3) hx27
   refine st_call (cx_call hc28 (ent_f hc28.fn rfl) hn0 (H.sel' [2, 3, 0, 0, 1, 3, 4, 5, 6] rfl rfl : Hp S0 σ0 _ ([_, _, _] ++ _))) wn ?_
   rintro _ σ31 ⟨_, ⟨a29, c30, rfl, rfl⟩, H, -⟩
   replace H : Hp _ _ _ [_, _, _, _, _, _, _, _] := H
   replace H : Hp S0 σ0 σ31 [Ch.bx Ai Aj Ak [(Sl a29 r26.2.1 c30), (I r26.2.2)] Am Ao, Ch.ro 0 (Sl a29 r26.2.1 c30) r26.2.1, Ch.bx n0 b11 0 [(I r3.1.1), (Sl a6 r3.1.2.1 c7), (I r3.1.2.2)] [] [], Ch.own n0 n0 (Sl a6 r3.1.2.1 c7) r3.1.2.1, Ch.bx n0 b1 0 [(I 0), (.slice none 0 0), (I 0)] [] []] := H.sel' [0, 1, 5, 6, 7] rfl rfl
   refine st (v := (pt b11 0)) (rv_fieldAddr (off := 0) (ft := 3) Tryz.underlying34 rfl ti3 rfl rfl) ?_
   refine st_exS (ex_store_box (k := 0) (cs := [(I r3.1.1), (Sl a6 r3.1.2.1 c7), (I r3.1.2.2)]) (vs := [(I r26.1)]) (cs' := [(I r26.1), (Sl a6 r3.1.2.1 c7), (I r3.1.2.2)]) H (i := 2) rfl ti3 rfl rfl rfl rfl rfl (Nat.le_of_ble_eq_true rfl) (by simp [plain]) rfl) wn ?_
   rintro σ32 ⟨H, -⟩
   refine w_end (q_blk ?_)
   obtain rfl := sj h
   exact ⟨rfl, _, σ32, a29, c30, a6, c7, fr_join ⟨rfl, rfl, rfl, trivial⟩, rfl, H.sel' [1, 2, 0, 3, 4] rfl rfl⟩
  ·replace h := bif_f hb21 h
   refine c_seq (rg (st (v := (B (r14.1 == 1))) (rv_eql (a := r14.1) (b := 1) rfl rfl) (sa (B (r14.1 == 1)) rfl (w_end (q_then ?_)))))
   refine cd_cond (r14.1 == 1) rfl (fun hb33 => ?_) (fun hb33 => ?_)
   ·replace h := bif_t hb33 h
    refine rg (sm (pt Aj Ak) rfl ?_)
    revert h; refine br fun r34 hx35 h => ?_
    have hc36 := c_spec_anyVector (Ai := Ai) (Aj := Aj) (Ak := Ak) (Am := Am) (Ao := Ao) (Ag := a17) (Ah := c18) hx35
    refine st_call (cx_call hc36 (ent_f hc36.fn rfl) hn0 (H.sel' [0, 1, 1, 2, 3, 4, 5, 6] rfl rfl : Hp S0 σ0 _ ([_, _] ++ _))) wn ?_
    rintro _ σ41 ⟨_, ⟨a37, c38, a39, c40, rfl, rfl⟩, H, -⟩
    replace H : Hp _ _ _ [_, _, _, _, _, _, _, _, _] := H
    replace H : Hp S0 σ0 σ41 [Ch.own n0 n0 (Sl a37 r34.1 c38) r34.1, Ch.bx Ai Aj Ak [(Sl a39 r34.2.1 c40), (I r34.2.2)] Am Ao, Ch.ro 0 (Sl a39 r34.2.1 c40) r34.2.1, Ch.bx n0 b11 0 [(I r3.1.1), (Sl a6 r3.1.2.1 c7), (I r3.1.2.2)] [] [], Ch.own n0 n0 (Sl a6 r3.1.2.1 c7) r3.1.2.1, Ch.bx n0 b1 0 [(I 0), (.slice none 0 0), (I 0)] [] []] := H.sel' [0, 1, 2, 4, 5, 7] rfl rfl
    refine st (v := (pt b11 1)) (rv_fieldAddr (off := 1) (ft := 26) Tryz.underlying34 rfl ti26 rfl rfl) ?_
    refine st_exS (ex_store_box (k := 1) (cs := [(I r3.1.1), (Sl a6 r3.1.2.1 c7), (I r3.1.2.2)]) (vs := [(Sl a37 r34.1 c38)]) (cs' := [(I r3.1.1), (Sl a37 r34.1 c38), (I r3.1.2.2)]) H (i := 3) rfl ti26 rfl rfl rfl rfl rfl (Nat.le_of_ble_eq_true rfl) (by simp [plain]) rfl) wn ?_
    rintro σ42 ⟨H, -⟩
    refine w_end (q_blk ?_)
    obtain rfl := sj h
    exact ⟨rfl, _, σ42, a39, c40, a37, c38, fr_join ⟨rfl, rfl, rfl, trivial⟩, rfl, H.sel' [2, 3, 0, 1, 5] rfl rfl⟩
   ·replace h := bif_f hb33 h
    refine c_seq (rg (st (v := (B (r14.1 == 2))) (rv_eql (a := r14.1) (b := 2) rfl rfl) (sa (B (r14.1 == 2)) rfl (w_end (q_then ?_)))))
    refine cd_cond (r14.1 == 2) rfl (fun hb43 => ?_) (fun hb43 => ?_)
    ·replace h := bif_t hb43 h
     refine rg (sm (pt Aj Ak) rfl ?_)
     refine st_ex (ex_buildSlice (el := n0) (xs := ([-1, 16] : List Int)) (ps := [(0, (I (-1))), (1, (I 16))]) (cs := [(I (-1)), (I 16)]) H hn0 Tryz.underlying26 ti3 rfl rfl (by kernel_rfl) (.cons (c := [(I (-1))]) rfl (.cons (c := [(I 16)]) rfl (.nil))) rfl) wn ?_
     rintro _ σ45 ⟨b44, rfl, H, -⟩
     replace H : Hp S0 σ0 σ45 [Ch.own n0 n0 (Sl (some ⟨b44, 0, none⟩) ([-1, 16] : List Int) 2) ([-1, 16] : List Int), Ch.bx Ai Aj Ak [(Sl a17 r14.2.1 c18), (I r14.2.2)] Am Ao, Ch.ro 0 (Sl a17 r14.2.1 c18) r14.2.1, Ch.bx n0 b11 0 [(I r3.1.1), (Sl a6 r3.1.2.1 c7), (I r3.1.2.2)] [] [], Ch.own n0 n0 (Sl a6 r3.1.2.1 c7) r3.1.2.1, Ch.bx n0 b1 0 [(I 0), (.slice none 0 0), (I 0)] [] []] := H.sel' [0, 1, 2, 3, 4, 6] rfl rfl
     obtain ⟨σ46, hw47, H, -⟩ := H.pub 0 rfl (Nat.le_refl _)
     rw [← hw47]; clear hw47
     replace H := H.roLow 0 0 rfl (Nat.zero_le _)
     revert h; refine br fun r48 hx49 h => ?_
     have hc50 := c_spec_reader_one (Ai := Ai) (Aj := Aj) (Ak := Ak) (Am := Am) (Ao := Ao) (Ag := a17) (Ah := c18) (Aq := (some ⟨b44, 0, none⟩)) (Ar := 2) hx49
     refine st_call (cx_call hc50 (ent_f hc50.fn rfl) hn0 (H.sel' [2, 3, 0, 0, 1, 3, 4, 5, 6] rfl rfl : Hp S0 σ0 _ ([_, _, _] ++ _))) wn ?_
     rintro _ σ53 ⟨_, ⟨a51, c52, rfl, rfl⟩, H, -⟩
     replace H : Hp _ _ _ [_, _, _, _, _, _, _, _] := H
     replace H : Hp S0 σ0 σ53 [Ch.bx Ai Aj Ak [(Sl a51 r48.2.1 c52), (I r48.2.2)] Am Ao, Ch.ro 0 (Sl a51 r48.2.1 c52) r48.2.1, Ch.bx n0 b11 0 [(I r3.1.1), (Sl a6 r3.1.2.1 c7), (I r3.1.2.2)] [] [], Ch.own n0 n0 (Sl a6 r3.1.2.1 c7) r3.1.2.1, Ch.bx n0 b1 0 [(I 0), (.slice none 0 0), (I 0)] [] []] := H.sel' [0, 1, 5, 6, 7] rfl rfl
     refine st (v := (pt b11 2)) (rv_fieldAddr (off := 2) (ft := 3) Tryz.underlying34 rfl ti3 rfl rfl) ?_
     refine st_exS (ex_store_box (k := 2) (cs := [(I r3.1.1), (Sl a6 r3.1.2.1 c7), (I r3.1.2.2)]) (vs := [(I r48.1)]) (cs' := [(I r3.1.1), (Sl a6 r3.1.2.1 c7), (I r48.1)]) H (i := 2) rfl ti3 rfl rfl rfl rfl rfl (Nat.le_of_ble_eq_true rfl) (by simp [plain]) rfl) wn ?_
     rintro σ54 ⟨H, -⟩
     refine w_end (q_blk ?_)
     obtain rfl := sj h
     exact ⟨rfl, _, σ54, a51, c52, a6, c7, fr_join ⟨rfl, rfl, rfl, trivial⟩, rfl, H.sel' [1, 2, 0, 3, 4] rfl rfl⟩
    ·replace h := bif_f hb43 h
     refine c_skip (q_blk ?_)
     obtain rfl := sj h
     exact ⟨rfl, _, σ19, a17, c18, a6, c7, fr_join ⟨rfl, rfl, rfl, trivial⟩, rfl, H.sel' [0, 1, 2, 3, 5] rfl rfl⟩
 ·clear hj
  have h := h'
  clear h' H
  rintro e a w ⟨rfl, ρ, σ55, a56, c57, a58, c59, rfl, rfl, H⟩
  refine q_then (c_seq (rg ?_))
  have hc60 := H.cells 2 rfl
  refine st (v := (.agg #[(I o20.2.1), (Sl a58 o20.2.2.1 c59), (I o20.2.2.2)])) (rv_load (cs := [(I o20.2.1), (Sl a58 o20.2.2.1 c59), (I o20.2.2.2)]) Tryz.underlying34 rfl ti34 rfl rfl hc60) ?_
  refine st_exS (ex_store_box (k := 0) (cs := [(I 0), (.slice none 0 0), (I 0)]) (vs := [(I o20.2.1), (Sl a58 o20.2.2.1 c59), (I o20.2.2.2)]) (cs' := [(I o20.2.1), (Sl a58 o20.2.2.1 c59), (I o20.2.2.2)]) H (i := 4) rfl ti34 rfl rfl rfl rfl rfl (Nat.le_of_ble_eq_true rfl) (by simp [plain]) rfl) wn ?_
  rintro σ61 ⟨H, -⟩
  refine w_end (q_then (c_ret ?_))
  obtain rfl := sj h
  exact fin_ret (v := (.agg #[(I o20.2.1), (Sl a58 o20.2.2.1 c59), (I o20.2.2.2)])) (results_ok Tryz.results62 (res_cell rfl (run_cellRes (cs := [(I o20.2.1), (Sl a58 o20.2.2.1 c59), (I o20.2.2.2)]) Tryz.underlying34 rfl ti34 rfl (H.cells 0 rfl)) res_nil) rfl) ⟨a58, c59, a56, c57, rfl, rfl⟩ (H.sel' [4, 1, 2] rfl rfl)

theorem c_spec_anyStore {Ae : (List UInt8) × Int} {Ag : Option Addr} {Ah : Nat} {Ai Aj Ak : Nat} {Am Ao : List Value} {r : (List (Int × (List Int) × Int)) × ((List UInt8) × Int)} (h : M.spec_anyStore Ae = some r) :
    Cal2 Tryz.prog 26 [(pt Aj Ak)] [Ch.bx Ai Aj Ak [(Sl Ag Ae.1 Ah), (I Ae.2)] Am Ao, Ch.ro 0 (Sl Ag Ae.1 Ah) Ae.1] (fun n0 v L => ∃ (az1 : Option Addr), ∃ (cz2 : Nat), ∃ (az3 : Option Addr), ∃ (cz4 : Nat), v = (Sl az1 r.1 cz2) ∧ L = [Ch.own n0 n0 (Sl az1 r.1 cz2) r.1, Ch.bx Ai Aj Ak [(Sl az3 r.2.1 cz4), (I r.2.2)] Am Ao, Ch.ro 0 (Sl az3 r.2.1 cz4) r.2.1]) := by
 refine cal2 (n := 30) Tryz.func26 rfl rfl rfl rfl ?_
 intro S0 σ0 n0 hn0 H
 unfold M.spec_anyStore at h
 refine c_seq (rg (sa (.slice none 0 0) rfl (w_end (q_then (c_seq (rg (sm (pt Aj Ak) rfl ?_)))))))
 revert h; refine br fun r1 hx2 h => ?_
 have hc3 := c_spec_someStore (Ai := Ai) (Aj := Aj) (Ak := Ak) (Am := Am) (Ao := Ao) (Ag := Ag) (Ah := Ah) hx2
 refine st_call (cx_call hc3 (ent_f hc3.fn rfl) hn0 (H.sel' [0, 1, 1] rfl rfl : Hp S0 σ0 _ ([_, _] ++ _))) wn ?_
 rintro _ σ8 ⟨_, ⟨a4, c5, a6, c7, rfl, rfl⟩, H, -⟩
 replace H : Hp _ _ _ [_, _, _, _] := H
 refine sa (Sl a4 r1.1 c5) rfl (w_end (q_then (c_seq (c_seq (rg (sm (pt Aj Ak) rfl ?_))))))
 revert h; refine br fun r9 hx10 h => ?_
 have hc11 := c_spec_reader_pick (Ai := Ai) (Aj := Aj) (Ak := Ak) (Am := Am) (Ao := Ao) (Ag := a6) (Ah := c7) hx10
 refine st_call (cx_call hc11 (ent_f hc11.fn rfl) hn0 (H.sel' [1, 2, 0, 2, 3] rfl rfl : Hp S0 σ0 _ ([_, _] ++ _))) wn ?_
 rintro _ σ14 ⟨_, ⟨a12, c13, rfl, rfl⟩, H, -⟩
 replace H : Hp _ _ _ [_, _, _, _, _] := H
 refine w_end (q_then ?_)
 obtain ⟨o15, hj, h'⟩ := bind_some h
 clear h
 refine c_cut (fun e a w => e = .normal ∧ ∃ (ρ : Nat → Value) (σ : St) (aj1 : Option Addr) (cj2 : Nat) (aj3 : Option Addr) (cj4 : Nat), a = fr 30 (updL ρ [(0, (pt Aj Ak)), (3, (Sl aj3 o15.2 cj4))]) ∧ w = σ.w ∧ Hp S0 σ0 σ [Ch.bx Ai Aj Ak [(Sl aj1 o15.1.1 cj2), (I o15.1.2)] Am Ao, Ch.ro 0 (Sl aj1 o15.1.1 cj2) o15.1.1, Ch.own n0 n0 (Sl aj3 o15.2 cj4) o15.2]) ?_ ?_
 ·clear h'
  rename _ = some o15 => h
  refine c_blk (c_seq (rg (st (v := (B (r9.1 == 0))) (rv_eql (a := r9.1) (b := 0) rfl rfl) (sa (B (r9.1 == 0)) rfl (w_end (q_then ?_))))))
  refine cd_cond (r9.1 == 0) rfl (fun hb16 => ?_) (fun hb16 => ?_)
  ·replace h := bif_t hb16 h
   refine rg (sm (Sl a4 r1.1 c5) rfl (sm (pt Aj Ak) rfl ?_))
   revert h; refine br fun r17 hx18 h => ?_
   have hc19 := c_spec_anyItem (Ai := Ai) (Aj := Aj) (Ak := Ak) (Am := Am) (Ao := Ao) (Ag := a12) (Ah := c13) hx18
   refine st_call (cx_call hc19 (ent_f hc19.fn rfl) hn0 (H.sel' [0, 1, 1, 2, 3, 4] rfl rfl : Hp S0 σ0 _ ([_, _] ++ _))) wn ?_
   rintro _ σ24 ⟨_, ⟨a20, c21, a22, c23, rfl, rfl⟩, H, -⟩
   replace H : Hp _ _ _ [_, _, _, _, _, _, _] := H
   obtain ⟨σ25, hw26, H, -⟩ := H.pub 0 rfl (Nat.le_refl _)
   rw [← hw26]; clear hw26
   refine st_ex (ex_buildSlice (el := n0) (xs := ([(r17.1.1, r17.1.2.1, r17.1.2.2)] : List (Int × (List Int) × Int))) (ps := [(0, (.agg #[(I r17.1.1), (Sl a20 r17.1.2.1 c21), (I r17.1.2.2)]))]) (cs := [(I r17.1.1), (Sl a20 r17.1.2.1 c21), (I r17.1.2.2)]) H hn0 Tryz.underlying23 ti34 rfl rfl (by kernel_rfl) (.cons (c := [(I r17.1.1), (Sl a20 r17.1.2.1 c21), (I r17.1.2.2)]) ⟨[(I r17.1.1)], [(Sl a20 r17.1.2.1 c21), (I r17.1.2.2)], rfl, rfl, ⟨[(Sl a20 r17.1.2.1 c21)], [(I r17.1.2.2)], rfl, ⟨_, rfl, (H.ro 0 rfl)⟩, rfl⟩⟩ (.nil)) rfl) wn ?_
   rintro _ σ28 ⟨b27, rfl, H, -⟩
   replace H : Hp S0 σ0 σ28 [Ch.own n0 n0 (Sl (some ⟨b27, 0, none⟩) ([(r17.1.1, r17.1.2.1, r17.1.2.2)] : List (Int × (List Int) × Int)) 1) ([(r17.1.1, r17.1.2.1, r17.1.2.2)] : List (Int × (List Int) × Int)), Ch.bx Ai Aj Ak [(Sl a22 r17.2.1 c23), (I r17.2.2)] Am Ao, Ch.ro 0 (Sl a22 r17.2.1 c23) r17.2.1, Ch.own n0 n0 (Sl a4 r1.1 c5) r1.1] := H.sel' [0, 2, 3, 5] rfl rfl
   revert h; refine br fun xs29 hx30 h => ?_
   refine st_ex (ex_append H (i := 3) rfl Tryz.underlying23 Tryz.underlying23 ti34 rfl rfl (by decide) (H.own 0 rfl).rd hx30 hn0 rfl rfl) wn ?_
   rintro _ σ33 ⟨a31, c32, rfl, H, -⟩
   refine sa (Sl a31 xs29 c32) rfl (w_end (q_blk ?_))
   obtain rfl := sj h
   exact ⟨rfl, _, σ33, a22, c23, a31, c32, fr_join ⟨rfl, rfl, trivial⟩, rfl, H.sel' [2, 3, 0] rfl rfl⟩
  ·replace h := bif_f hb16 h
   refine c_seq (rg (st (v := (B (r9.1 == 1))) (rv_eql (a := r9.1) (b := 1) rfl rfl) (sa (B (r9.1 == 1)) rfl (w_end (q_then ?_)))))
   refine cd_cond (r9.1 == 1) rfl (fun hb34 => ?_) (fun hb34 => ?_)
   ·replace h := bif_t hb34 h
    refine c_seq (rg (sm (Sl a4 r1.1 c5) rfl (st (v := (I (r1.1.length : Int))) (rv_len Tryz.underlying23 rfl) (st (v := (B (decide (0 < (r1.1.length : Int))))) (rv_gtr (a := (r1.1.length : Int)) (b := 0) rfl rfl) (w_end (q_then ?_))))))
    refine cd_cond (decide (0 < (r1.1.length : Int))) rfl (fun hb35 => ?_) (fun hb35 => ?_)
    ·replace h := bif_t hb35 h
     refine rg (sm (Sl a4 r1.1 c5) rfl (sm (pt Aj Ak) rfl (sm (Sl a4 r1.1 c5) rfl (st (v := (I (r1.1.length : Int))) (rv_len Tryz.underlying23 rfl) ?_))))
     revert h; refine br fun r36 hx37 h => ?_
     have hc38 := c_spec_reader_pick (Ai := Ai) (Aj := Aj) (Ak := Ak) (Am := Am) (Ao := Ao) (Ag := a12) (Ah := c13) hx37
     refine st_call (cx_call hc38 (ent_f hc38.fn rfl) hn0 (H.sel' [0, 1, 1, 2, 3, 4] rfl rfl : Hp S0 σ0 _ ([_, _] ++ _))) wn ?_
     rintro _ σ41 ⟨_, ⟨a39, c40, rfl, rfl⟩, H, -⟩
     replace H : Hp _ _ _ [_, _, _, _, _, _] := H
     refine sm (pt Aj Ak) rfl ?_
     revert h; refine br fun r42 hx43 h => ?_
     have hc44 := c_spec_anyVector (Ai := Ai) (Aj := Aj) (Ak := Ak) (Am := Am) (Ao := Ao) (Ag := a39) (Ah := c40) hx43
     refine st_call (cx_call hc44 (ent_f hc44.fn rfl) hn0 (H.sel' [0, 1, 1, 2, 3, 4, 5] rfl rfl : Hp S0 σ0 _ ([_, _] ++ _))) wn ?_
     rintro _ σ49 ⟨_, ⟨a45, c46, a47, c48, rfl, rfl⟩, H, -⟩
     replace H : Hp _ _ _ [_, _, _, _, _, _, _, _] := H
     replace H : Hp S0 σ0 σ49 [Ch.own n0 n0 (Sl a45 r42.1 c46) r42.1, Ch.bx Ai Aj Ak [(Sl a47 r42.2.1 c48), (I r42.2.2)] Am Ao, Ch.ro 0 (Sl a47 r42.2.1 c48) r42.2.1, Ch.own n0 n0 (Sl a4 r1.1 c5) r1.1] := H.sel' [0, 1, 2, 5] rfl rfl
     revert h; refine br fun x50 hx51 h => ?_
     obtain ⟨b53, o54, hi52, -⟩ := (H.own 3 rfl).ix hx51
     refine st (v := (pt b53 o54)) (rv_ix Tryz.underlying23 ti34 rfl rfl hi52) (st (v := (pt b53 (o54 + 1))) (rv_fieldAddr (off := 1) (ft := 26) Tryz.underlying34 rfl ti26 rfl rfl) ?_)
     obtain ⟨σ55, hw56, H, -⟩ := H.pub 0 rfl (Nat.le_refl _)
     rw [← hw56]; clear hw56
     refine st_exS (ex_store_own (e' := (x50.1, r42.1, x50.2.2)) (vs := [(Sl a45 r42.1 c46)]) (k := 1) H (i := 3) rfl ti26 hx51 hi52 rfl rfl rfl rfl rfl (Nat.le_of_ble_eq_true rfl) (by simp [plain]) (by rintro _ ⟨_, _, rfl, rfl, ⟨_, _, rfl, ⟨_, rfl, hR59⟩, rfl⟩⟩; exact ⟨[(I x50.1)], [(Sl a45 r42.1 c46), (I x50.2.2)], rfl, rfl, ⟨[(Sl a45 r42.1 c46)], [(I x50.2.2)], rfl, ⟨_, rfl, (H.ro 0 rfl)⟩, rfl⟩⟩)) wn ?_
     rintro σ60 ⟨H, -⟩
     have hsl : (Sl a4 r1.1 c5) = (Sl a4 (r1.1.set r36.1.toNat (x50.1, r42.1, x50.2.2)) c5) := sl_len List.length_set.symm
     rw [hsl]; rw [hsl] at H; clear hsl
     refine w_end (q_blk ?_)
     obtain rfl := sj h
     exact ⟨rfl, _, σ60, a47, c48, a4, c5, fr_join ⟨rfl, rfl, trivial⟩, rfl, H.sel' [2, 3, 0] rfl rfl⟩
    ·replace h := bif_f hb35 h
     refine c_skip (q_blk ?_)
     obtain rfl := sj h
     exact ⟨rfl, _, σ14, a12, c13, a4, c5, fr_join ⟨rfl, rfl, trivial⟩, rfl, H.sel' [0, 1, 2] rfl rfl⟩
   ·replace h := bif_f hb34 h
    refine c_skip (q_blk ?_)
    obtain rfl := sj h
    exact ⟨rfl, _, σ14, a12, c13, a4, c5, fr_join ⟨rfl, rfl, trivial⟩, rfl, H.sel' [0, 1, 2] rfl rfl⟩
 ·clear hj
  have h := h'
  clear h' H
  rintro e a w ⟨rfl, ρ, σ61, a62, c63, a64, c65, rfl, rfl, H⟩
  refine q_then (c_seq (rg (sm (Sl a64 o15.2 c65) rfl (sa (Sl a64 o15.2 c65) rfl (w_end (q_then (c_ret ?_)))))))
  obtain rfl := sj h
  exact fin_ret (v := (Sl a64 o15.2 c65)) (results_ok Tryz.results26 (res_tmp (v := (Sl a64 o15.2 c65)) rfl res_nil) rfl) ⟨a64, c65, a62, c63, rfl, rfl⟩ (H.sel' [2, 0, 1] rfl rfl)

theorem c_spec_anyKind {Ae : (List UInt8) × Int} {Ag : Option Addr} {Ah : Nat} {Ai Aj Ak : Nat} {Am Ao : List Value} {r : Int × ((List UInt8) × Int)} (h : M.spec_anyKind Ae = some r) :
    Cal2 Tryz.prog 28 [(pt Aj Ak)] [Ch.bx Ai Aj Ak [(Sl Ag Ae.1 Ah), (I Ae.2)] Am Ao, Ch.ro 0 (Sl Ag Ae.1 Ah) Ae.1] (fun n0 v L => ∃ (az1 : Option Addr), ∃ (cz2 : Nat), v = (I r.1) ∧ L = [Ch.bx Ai Aj Ak [(Sl az1 r.2.1 cz2), (I r.2.2)] Am Ao, Ch.ro 0 (Sl az1 r.2.1 cz2) r.2.1]) := by
 refine cal2 (n := 6) Tryz.func28 rfl rfl rfl rfl ?_
 intro S0 σ0 n0 hn0 H
 unfold M.spec_anyKind at h
 refine c_seq (rg (sa (I 0) rfl (w_end (q_then (c_seq (rg (sm (pt Aj Ak) rfl ?_)))))))
 refine st_ex (ex_buildSlice (el := n0) (xs := ([1, 2, 3, 4, 1, 2, 3, 4, 1, 2, 0, 5] : List Int)) (ps := [(0, (I 1)), (1, (I 2)), (2, (I 3)), (3, (I 4)), (4, (I 1)), (5, (I 2)), (6, (I 3)), (7, (I 4)), (8, (I 1)), (9, (I 2)), (10, (I 0)), (11, (I 5))]) (cs := [(I 1), (I 2), (I 3), (I 4), (I 1), (I 2), (I 3), (I 4), (I 1), (I 2), (I 0), (I 5)]) H hn0 Tryz.underlying26 ti3 rfl rfl (by kernel_rfl) (.cons (c := [(I 1)]) rfl (.cons (c := [(I 2)]) rfl (.cons (c := [(I 3)]) rfl (.cons (c := [(I 4)]) rfl (.cons (c := [(I 1)]) rfl (.cons (c := [(I 2)]) rfl (.cons (c := [(I 3)]) rfl (.cons (c := [(I 4)]) rfl (.cons (c := [(I 1)]) rfl (.cons (c := [(I 2)]) rfl (.cons (c := [(I 0)]) rfl (.cons (c := [(I 5)]) rfl (.nil))))))))))))) rfl) wn ?_
 rintro _ σ2 ⟨b1, rfl, H, -⟩
 obtain ⟨σ3, hw4, H, -⟩ := H.pub 0 rfl (Nat.le_refl _)
 rw [← hw4]; clear hw4
 replace H := H.roLow 0 0 rfl (Nat.zero_le _)
 revert h; refine br fun r5 hx6 h => ?_
 have hc7 := c_spec_reader_one (Ai := Ai) (Aj := Aj) (Ak := Ak) (Am := Am) (Ao := Ao) (Ag := Ag) (Ah := Ah) (Aq := (some ⟨b1, 0, none⟩)) (Ar := 12) hx6
 refine st_call (cx_call hc7 (ent_f hc7.fn rfl) hn0 (H.sel' [2, 3, 0, 0, 1, 3] rfl rfl : Hp S0 σ0 _ ([_, _, _] ++ _))) wn ?_
 rintro _ σ10 ⟨_, ⟨a8, c9, rfl, rfl⟩, H, -⟩
 replace H : Hp _ _ _ [_, _, _, _, _] := H
 refine sa (I r5.1) rfl (w_end (q_then (c_ret ?_)))
 obtain rfl := sj h
 exact fin_ret (v := (I r5.1)) (results_ok Tryz.results28 (res_tmp (v := (I r5.1)) rfl res_nil) rfl) ⟨a8, c9, rfl, rfl⟩ (H.sel' [0, 1] rfl rfl)

theorem c_spec_someMany {Ae : (List UInt8) × Int} {Ag : Option Addr} {Ah : Nat} {Ai Aj Ak : Nat} {Am Ao : List Value} {r : Int × ((List UInt8) × Int)} (h : M.spec_someMany Ae = some r) :
    Cal2 Tryz.prog 43 [(pt Aj Ak)] [Ch.bx Ai Aj Ak [(Sl Ag Ae.1 Ah), (I Ae.2)] Am Ao, Ch.ro 0 (Sl Ag Ae.1 Ah) Ae.1] (fun n0 v L => ∃ (az1 : Option Addr), ∃ (cz2 : Nat), v = (I r.1) ∧ L = [Ch.bx Ai Aj Ak [(Sl az1 r.2.1 cz2), (I r.2.2)] Am Ao, Ch.ro 0 (Sl az1 r.2.1 cz2) r.2.1]) := by
 refine cal2 (n := 6) Tryz.func43 rfl rfl rfl rfl ?_
 intro S0 σ0 n0 hn0 H
 unfold M.spec_someMany at h
 refine c_seq (rg (sa (I 0) rfl (w_end (q_then (c_seq (rg (sm (pt Aj Ak) rfl ?_)))))))
 refine st_ex (ex_buildSlice (el := n0) (xs := ([1, 2, 3, 5, 0, 6, 2] : List Int)) (ps := [(0, (I 1)), (1, (I 2)), (2, (I 3)), (3, (I 5)), (4, (I 0)), (5, (I 6)), (6, (I 2))]) (cs := [(I 1), (I 2), (I 3), (I 5), (I 0), (I 6), (I 2)]) H hn0 Tryz.underlying26 ti3 rfl rfl (by kernel_rfl) (.cons (c := [(I 1)]) rfl (.cons (c := [(I 2)]) rfl (.cons (c := [(I 3)]) rfl (.cons (c := [(I 5)]) rfl (.cons (c := [(I 0)]) rfl (.cons (c := [(I 6)]) rfl (.cons (c := [(I 2)]) rfl (.nil)))))))) rfl) wn ?_
 rintro _ σ2 ⟨b1, rfl, H, -⟩
 obtain ⟨σ3, hw4, H, -⟩ := H.pub 0 rfl (Nat.le_refl _)
 rw [← hw4]; clear hw4
 replace H := H.roLow 0 0 rfl (Nat.zero_le _)
 revert h; refine br fun r5 hx6 h => ?_
 have hc7 := c_spec_reader_one (Ai := Ai) (Aj := Aj) (Ak := Ak) (Am := Am) (Ao := Ao) (Ag := Ag) (Ah := Ah) (Aq := (some ⟨b1, 0, none⟩)) (Ar := 7) hx6
 refine st_call (cx_call hc7 (ent_f hc7.fn rfl) hn0 (H.sel' [2, 3, 0, 0, 1, 3] rfl rfl : Hp S0 σ0 _ ([_, _, _] ++ _))) wn ?_
 rintro _ σ10 ⟨_, ⟨a8, c9, rfl, rfl⟩, H, -⟩
 replace H : Hp _ _ _ [_, _, _, _, _] := H
 refine sa (I r5.1) rfl (w_end (q_then (c_ret ?_)))
 obtain rfl := sj h
 exact fin_ret (v := (I r5.1)) (results_ok Tryz.results43 (res_tmp (v := (I r5.1)) rfl res_nil) rfl) ⟨a8, c9, rfl, rfl⟩ (H.sel' [0, 1] rfl rfl)

theorem c_spec_someKey {Ae : (List UInt8) × Int} {Ap : List (Int × (List Int) × Int)} {Ag : Option Addr} {Ah : Nat} {Ai Aj Ak : Nat} {Am Ao : List Value} {Aq : Option Addr} {Ar : Nat} {r : Int × ((List UInt8) × Int)} (h : M.spec_someKey Ae Ap = some r) :
    Cal2 Tryz.prog 44 [(pt Aj Ak), (Sl Aq Ap Ar)] [Ch.bx Ai Aj Ak [(Sl Ag Ae.1 Ah), (I Ae.2)] Am Ao, Ch.ro 0 (Sl Ag Ae.1 Ah) Ae.1, Ch.ro 0 (Sl Aq Ap Ar) Ap] (fun n0 v L => ∃ (az1 : Option Addr), ∃ (cz2 : Nat), v = (I r.1) ∧ L = [Ch.bx Ai Aj Ak [(Sl az1 r.2.1 cz2), (I r.2.2)] Am Ao, Ch.ro 0 (Sl az1 r.2.1 cz2) r.2.1]) := by
 refine cal2 (n := 24) Tryz.func44 rfl rfl rfl rfl ?_
 intro S0 σ0 n0 hn0 H
 unfold M.spec_someKey at h
 refine c_seq (rg (sa (I 0) rfl (w_end (q_then (c_seq (c_seq ?_))))))
 obtain ⟨o1, hj, h'⟩ := bind_some h
 clear h
 refine c_cut (fun e a w => e = .normal ∧ ∃ (ρ : Nat → Value) (σ : St) (aj1 : Option Addr) (cj2 : Nat), a = fr 24 (updL ρ [(0, (pt Aj Ak)), (1, (Sl Aq Ap Ar)), (12, (B o1.2))]) ∧ w = σ.w ∧ Hp S0 σ0 σ [Ch.bx Ai Aj Ak [(Sl aj1 o1.1.1 cj2), (I o1.1.2)] Am Ao, Ch.ro 0 (Sl aj1 o1.1.1 cj2) o1.1.1, Ch.ro 0 (Sl Aq Ap Ar) Ap]) ?_ ?_
 ·clear h'
  rename _ = some o1 => h
  refine rg (sm (Sl Aq Ap Ar) rfl (st (v := (I (Ap.length : Int))) (rv_len Tryz.underlying23 rfl) (st (v := (B (decide (0 < (Ap.length : Int))))) (rv_gtr (a := (Ap.length : Int)) (b := 0) rfl rfl) (sm (B (decide (0 < (Ap.length : Int)))) rfl ?_))))
  rcases Bool.eq_false_or_eq_true (decide (0 < (Ap.length : Int))) with hb2 | hb2
  ·replace h := bif_t hb2 h
   refine st_g (v := (pt Aj Ak)) (congrArg some hb2) (rv_move rfl) ?_
   revert h; refine br fun r3 hx4 h => ?_
   have hc5 := c_spec_reader_pick (Ai := Ai) (Aj := Aj) (Ak := Ak) (Am := Am) (Ao := Ao) (Ag := Ag) (Ah := Ah) hx4
   refine st_call (cx_call hc5 (ent_f hc5.fn rfl) hn0 (H.sel' [0, 1, 1, 2] rfl rfl : Hp S0 σ0 _ ([_, _] ++ _))) (wanted_yes rfl (by exact (congrArg some hb2))) ?_
   rintro _ σ8 ⟨_, ⟨a6, c7, rfl, rfl⟩, H, -⟩
   replace H : Hp _ _ _ [_, _, _, _] := H
   refine st_g (v := (B (decide (0 < r3.1)))) (congrArg some hb2) (rv_gtr (a := r3.1) (b := 0) rfl rfl) (st (v := (B (decide (0 < r3.1)))) (rv_pick_t (congrArg B hb2) rfl) (w_end ?_))
   obtain rfl := sj h
   exact ⟨rfl, _, σ8, a6, c7, fr_join ⟨rfl, rfl, rfl, trivial⟩, rfl, H.sel' [0, 1, 3] rfl rfl⟩
  ·replace h := bif_f hb2 h
   refine st_skip (congrArg some hb2) (st_skip (congrArg some hb2) (st_skip (congrArg some hb2) (st (v := (B false)) (rv_pick_f (congrArg B hb2) rfl) (w_end ?_))))
   obtain rfl := sj h
   exact ⟨rfl, _, σ0, Ag, Ah, fr_join ⟨rfl, rfl, rfl, trivial⟩, rfl, H.sel' [0, 1, 2] rfl rfl⟩
 ·clear hj
  have h := h'
  clear h' H
  rintro e a w ⟨rfl, ρ, σ9, a10, c11, rfl, rfl, H⟩
  refine q_then ?_
  refine cd_cond o1.2 rfl (fun hb12 => ?_) (fun hb12 => ?_)
  ·replace h := bif_t hb12 h
   refine c_seq (rg (sm (Sl Aq Ap Ar) rfl (sm (pt Aj Ak) rfl (sm (Sl Aq Ap Ar) rfl (st (v := (I (Ap.length : Int))) (rv_len Tryz.underlying23 rfl) ?_)))))
   revert h; refine br fun r13 hx14 h => ?_
   have hc15 := c_spec_reader_pick (Ai := Ai) (Aj := Aj) (Ak := Ak) (Am := Am) (Ao := Ao) (Ag := a10) (Ah := c11) hx14
   refine st_call (cx_call hc15 (ent_f hc15.fn rfl) hn0 (H.sel' [0, 1, 1, 2] rfl rfl : Hp S0 σ0 _ ([_, _] ++ _))) wn ?_
   rintro _ σ18 ⟨_, ⟨a16, c17, rfl, rfl⟩, H, -⟩
   replace H : Hp _ _ _ [_, _, _, _] := H
   revert h; refine br fun x19 hx20 h => ?_
   obtain ⟨b22, o23, hi21, -⟩ := (H.ro 3 rfl).ix hx20
   refine st (v := (pt b22 o23)) (rv_ix Tryz.underlying23 ti34 rfl rfl hi21) (st (v := (pt b22 (o23 + 0))) (rv_fieldAddr (off := 0) (ft := 3) Tryz.underlying34 rfl ti3 rfl rfl) ?_)
   have hc24 := ((H.ro 3 rfl).at hx20 hi21).fst.int
   refine st (v := (I x19.1)) (rv_load1 Tryz.underlying3 rfl rfl hc24) (sa (I x19.1) rfl (w_end (q_then (c_ret (q_then_r ?_)))))
   obtain rfl := sj h
   exact fin_ret (v := (I x19.1)) (results_ok Tryz.results44 (res_tmp (v := (I x19.1)) rfl res_nil) rfl) ⟨a16, c17, rfl, rfl⟩ (H.sel' [0, 1] rfl rfl)
  ·replace h := bif_f hb12 h
   refine c_skip (q_then (c_seq (rg (sm (pt Aj Ak) rfl ?_))))
   refine st_ex (ex_buildSlice (el := n0) (xs := ([5, 99, 0, 31, -1] : List Int)) (ps := [(0, (I 5)), (1, (I 99)), (2, (I 0)), (3, (I 31)), (4, (I (-1)))]) (cs := [(I 5), (I 99), (I 0), (I 31), (I (-1))]) H hn0 Tryz.underlying26 ti3 rfl rfl (by kernel_rfl) (.cons (c := [(I 5)]) rfl (.cons (c := [(I 99)]) rfl (.cons (c := [(I 0)]) rfl (.cons (c := [(I 31)]) rfl (.cons (c := [(I (-1))]) rfl (.nil)))))) rfl) wn ?_
   rintro _ σ26 ⟨b25, rfl, H, -⟩
   obtain ⟨σ27, hw28, H, -⟩ := H.pub 0 rfl (Nat.le_refl _)
   rw [← hw28]; clear hw28
   replace H := H.roLow 0 0 rfl (Nat.zero_le _)
   revert h; refine br fun r29 hx30 h => ?_
   have hc31 := c_spec_reader_one (Ai := Ai) (Aj := Aj) (Ak := Ak) (Am := Am) (Ao := Ao) (Ag := a10) (Ah := c11) (Aq := (some ⟨b25, 0, none⟩)) (Ar := 5) hx30
   refine st_call (cx_call hc31 (ent_f hc31.fn rfl) hn0 (H.sel' [2, 3, 0, 0, 1, 3, 4] rfl rfl : Hp S0 σ0 _ ([_, _, _] ++ _))) wn ?_
   rintro _ σ34 ⟨_, ⟨a32, c33, rfl, rfl⟩, H, -⟩
   replace H : Hp _ _ _ [_, _, _, _, _, _] := H
   refine sa (I r29.1) rfl (w_end (q_then (c_ret ?_)))
   obtain rfl := sj h
   exact fin_ret (v := (I r29.1)) (results_ok Tryz.results44 (res_tmp (v := (I r29.1)) rfl res_nil) rfl) ⟨a32, c33, rfl, rfl⟩ (H.sel' [0, 1] rfl rfl)

theorem c_spec_DrawWalkTo {Aa : List UInt8} {Ac : Option Addr} {Ad : Nat} {r : (List (Int × (List Int) × Int)) × Int × Int × Int × (List Int)} (h : M.spec_DrawWalkTo Aa = some r) :
    Cal2 Tryz.prog 17 [(Sl Ac Aa Ad)] [Ch.ro 0 (Sl Ac Aa Ad) Aa] (fun n0 v L => ∃ (az1 : Option Addr), ∃ (cz2 : Nat), ∃ (az3 : Option Addr), ∃ (cz4 : Nat), v = (.tuple #[(Sl az1 r.1 cz2), (I r.2.1), (I r.2.2.1), (I r.2.2.2.1), (Sl az3 r.2.2.2.2 cz4)]) ∧ L = [Ch.ro n0 (Sl az1 r.1 cz2) r.1, Ch.own n0 n0 (Sl az3 r.2.2.2.2 cz4) r.2.2.2.2]) := by
 refine cal2 (n := 29) Tryz.func17 rfl rfl rfl rfl ?_
 intro S0 σ0 n0 hn0 H
 unfold M.spec_DrawWalkTo at h
 refine c_seq (rg (sa (.slice none 0 0) rfl (sa (I 0) rfl (sa (I 0) rfl (sa (I 0) rfl (sa (.slice none 0 0) rfl (w_end (q_then (c_seq (rg (sm (Sl Ac Aa Ad) rfl ?_)))))))))))
 revert h; refine br fun r1 hx2 h => ?_
 have hc3 := c_spec_newReader (Ac := Ac) (Ad := Ad) hx2
 refine st_call (cx_call hc3 (ent_f hc3.fn rfl) hn0 (H.sel' [0, 0] rfl rfl : Hp S0 σ0 _ ([_] ++ _))) wn ?_
 rintro _ σ7 ⟨_, ⟨b4, a5, c6, rfl, rfl⟩, H, -⟩
 replace H : Hp _ _ _ [_, _, _] := H
 refine sa (pt b4 0) rfl (w_end (q_then (c_seq (rg (sm (pt b4 0) rfl ?_)))))
 revert h; refine br fun r8 hx9 h => ?_
 have hc10 := c_spec_anyStore (Ai := n0) (Aj := b4) (Ak := 0) (Am := []) (Ao := []) (Ag := a5) (Ah := c6) hx9
 refine st_call (cx_call hc10 (ent_f hc10.fn rfl) hn0 (H.sel' [0, 1, 1, 2] rfl rfl : Hp S0 σ0 _ ([_, _] ++ _))) wn ?_
 rintro _ σ15 ⟨_, ⟨a11, c12, a13, c14, rfl, rfl⟩, H, -⟩
 replace H : Hp _ _ _ [_, _, _, _, _] := H
 refine sa (Sl a11 r8.1 c12) rfl (w_end (q_then (c_seq (rg (sm (pt b4 0) rfl ?_)))))
 revert h; refine br fun r16 hx17 h => ?_
 have hc18 := c_spec_anyKind (Ai := n0) (Aj := b4) (Ak := 0) (Am := []) (Ao := []) (Ag := a13) (Ah := c14) hx17
 refine st_call (cx_call hc18 (ent_f hc18.fn rfl) hn0 (H.sel' [1, 2, 0, 2, 3, 4] rfl rfl : Hp S0 σ0 _ ([_, _] ++ _))) wn ?_
 rintro _ σ21 ⟨_, ⟨a19, c20, rfl, rfl⟩, H, -⟩
 replace H : Hp _ _ _ [_, _, _, _, _, _] := H
 refine sa (I r16.1) rfl (w_end (q_then (c_seq (rg (sm (pt b4 0) rfl ?_)))))
 revert h; refine br fun r22 hx23 h => ?_
 have hc24 := c_spec_someMany (Ai := n0) (Aj := b4) (Ak := 0) (Am := []) (Ao := []) (Ag := a19) (Ah := c20) hx23
 refine st_call (cx_call hc24 (ent_f hc24.fn rfl) hn0 (H.sel' [0, 1, 1, 2, 3, 4, 5] rfl rfl : Hp S0 σ0 _ ([_, _] ++ _))) wn ?_
 rintro _ σ27 ⟨_, ⟨a25, c26, rfl, rfl⟩, H, -⟩
 replace H : Hp _ _ _ [_, _, _, _, _, _, _] := H
 refine sa (I r22.1) rfl (w_end (q_then (c_seq (rg (sm (pt b4 0) rfl (sm (Sl a11 r8.1 c12) rfl ?_))))))
 obtain ⟨σ28, hw29, H, -⟩ := H.pub 3 rfl (Nat.le_refl _)
 rw [← hw29]; clear hw29
 replace H := H.roLow 0 0 rfl (Nat.zero_le _)
 revert h; refine br fun r30 hx31 h => ?_
 have hc32 := c_spec_someKey (Ai := n0) (Aj := b4) (Ak := 0) (Am := []) (Ao := []) (Ag := a25) (Ah := c26) (Aq := a11) (Ar := c12) hx31
 refine st_call (cx_call hc32 (ent_f hc32.fn rfl) hn0 (H.sel' [2, 3, 0, 0, 1, 3, 4, 5, 6, 7] rfl rfl : Hp S0 σ0 _ ([_, _, _] ++ _))) wn ?_
 rintro _ σ35 ⟨_, ⟨a33, c34, rfl, rfl⟩, H, -⟩
 replace H : Hp _ _ _ [_, _, _, _, _, _, _, _, _] := H
 replace H : Hp S0 σ0 σ35 [Ch.bx n0 b4 0 [(Sl a33 r30.2.1 c34), (I r30.2.2)] [] [], Ch.ro 0 (Sl a33 r30.2.1 c34) r30.2.1, Ch.ro n0 (Sl a11 r8.1 c12) r8.1] := H.sel' [0, 1, 3] rfl rfl
 refine sa (I r30.1) rfl (w_end (q_then (c_seq (rg (sm (Sl a11 r8.1 c12) rfl (sm (I r16.1) rfl (sm (I r22.1) rfl (sm (I r30.1) rfl (sm (pt b4 0) rfl ?_)))))))))
 revert h; refine br fun r36 hx37 h => ?_
 have hc38 := c_spec_anyVector (Ai := n0) (Aj := b4) (Ak := 0) (Am := []) (Ao := []) (Ag := a33) (Ah := c34) hx37
 refine st_call (cx_call hc38 (ent_f hc38.fn rfl) hn0 (H.sel' [0, 1, 1, 2] rfl rfl : Hp S0 σ0 _ ([_, _] ++ _))) wn ?_
 rintro _ σ43 ⟨_, ⟨a39, c40, a41, c42, rfl, rfl⟩, H, -⟩
 replace H : Hp _ _ _ [_, _, _, _, _] := H
 refine sa (Sl a11 r8.1 c12) rfl (sa (I r16.1) rfl (sa (I r22.1) rfl (sa (I r30.1) rfl (sa (Sl a39 r36.1 c40) rfl (w_end (q_then (c_ret ?_)))))))
 obtain rfl := sj h
 exact fin_ret (v := (.tuple #[(Sl a11 r8.1 c12), (I r16.1), (I r22.1), (I r30.1), (Sl a39 r36.1 c40)])) (results_ok Tryz.results17 (res_tmp (v := (Sl a11 r8.1 c12)) rfl (res_tmp (v := (I r16.1)) rfl (res_tmp (v := (I r22.1)) rfl (res_tmp (v := (I r30.1)) rfl (res_tmp (v := (Sl a39 r36.1 c40)) rfl res_nil))))) rfl) ⟨a11, c12, a39, c40, rfl, rfl⟩ (H.sel' [4, 0] rfl rfl)

theorem c_impl_hitHeap_Push__impl_Hit {Bj : List (Int × Int)} {Bg : Int × Int} {Bk : Option Addr} {Bl : Nat} {Bm Bn Bo : Nat} {Bp Bq : List Value} {r : (List (Int × Int))} (h : M.impl_hitHeap_Push__impl_Hit Bj Bg = some r) :
    Cal2 Tryz.prog 185 [(pt Bn Bo), (.iface 37 (.agg #[(I Bg.1), (I Bg.2)]))] [Ch.bx Bm Bn Bo [(Sl Bk Bj Bl)] Bp Bq, Ch.own 0 0 (Sl Bk Bj Bl) Bj] (fun n0 v L => ∃ (az1 : Option Addr), ∃ (cz2 : Nat), v = (.tuple #[]) ∧ L = [Ch.bx Bm Bn Bo [(Sl az1 r cz2)] Bp Bq, Ch.own 0 0 (Sl az1 r cz2) r]) := by
 refine cal2 (n := 13) Tryz.func185 rfl rfl rfl rfl ?_
 intro S0 σ0 n0 hn0 H
 unfold M.impl_hitHeap_Push__impl_Hit at h
 have hc1 := H.cell (u := (Sl Bk Bj Bl)) (o' := Bo) 0 0 rfl rfl rfl
 revert h; refine br fun xs3 hx4 h => ?_
 have Hs := H
 refine rg2 (σ := σ0) (Nm := (Nat) × (Option Addr) × (Nat)) 8 [6, 7] [[false, false], [true, false], [true, true]] [[(0, 0), (1, 1), (2, 2)], [(0, 0), (1, 1)], [(0, 0), (1, 1)], [(0, 0), (1, 1)], [(0, 0)], [(0, 0)], [(0, 1)], [(1, 2)]] 2 [fun ((b2, a5, c6) : (Nat) × (Option Addr) × (Nat)) => fun σm => Hp S0 σ0 σm [Ch.bx Bm Bn Bo [(Sl Bk Bj Bl)] Bp Bq, Ch.own 0 0 (Sl Bk Bj Bl) Bj] ∧ Md (cov []) σ0 σm, fun ((b2, a5, c6) : (Nat) × (Option Addr) × (Nat)) => fun σm => Hp S0 σ0 σm [Ch.own n0 n0 (Sl (some ⟨b2, 0, none⟩) ([(Bg.1, Bg.2)] : List (Int × Int)) 1) ([(Bg.1, Bg.2)] : List (Int × Int)), Ch.bx Bm Bn Bo [(Sl Bk Bj Bl)] Bp Bq, Ch.own 0 0 (Sl Bk Bj Bl) Bj] ∧ Md (cov []) σ0 σm, fun ((b2, a5, c6) : (Nat) × (Option Addr) × (Nat)) => fun σm => Hp S0 σ0 σm [Ch.own 0 0 (Sl a5 xs3 c6) xs3, Ch.own n0 n0 (Sl (some ⟨b2, 0, none⟩) ([(Bg.1, Bg.2)] : List (Int × Int)) 1) ([(Bg.1, Bg.2)] : List (Int × Int)), Ch.bx Bm Bn Bo [(Sl Bk Bj Bl)] Bp Bq] ∧ Md (fun i => (cov []) i ∨ (fun b => blk (Sl Bk Bj Bl) = some b) i) σ0 σm] [fun ((b2, a5, c6) : (Nat) × (Option Addr) × (Nat)) => (pt Bn Bo), fun ((b2, a5, c6) : (Nat) × (Option Addr) × (Nat)) => (pt Bn Bo), fun ((b2, a5, c6) : (Nat) × (Option Addr) × (Nat)) => (pt Bn Bo), fun ((b2, a5, c6) : (Nat) × (Option Addr) × (Nat)) => (Sl Bk Bj Bl), fun ((b2, a5, c6) : (Nat) × (Option Addr) × (Nat)) => (.iface 37 (.agg #[(I Bg.1), (I Bg.2)])), fun ((b2, a5, c6) : (Nat) × (Option Addr) × (Nat)) => (.agg #[(I Bg.1), (I Bg.2)]), fun ((b2, a5, c6) : (Nat) × (Option Addr) × (Nat)) => (Sl (some ⟨b2, 0, none⟩) ([(Bg.1, Bg.2)] : List (Int × Int)) 1), fun ((b2, a5, c6) : (Nat) × (Option Addr) × (Nat)) => (Sl a5 xs3 c6)] (0, none, 0) (by kernel_rfl) (by kernel_rfl) ?_ ?_ ?_
 ·intro σm m0
  exact ⟨H.grow (m0.mono fun _ h => h.elim), m0⟩
 ·refine ac rfl (by
    intro k; rintro ⟨b2, a5, c6⟩ ρ σm hJ hoff hdep
    have e0 := look_off (N := 13) (hoff 0 rfl) rfl
    exact dp_v (v := (pt Bn Bo)) wn (rv_move e0) rfl hJ) ?_
  refine ac rfl (by
    intro k; rintro ⟨b2, a5, c6⟩ ρ σm hJ hoff hdep
    have e0 := look_off (N := 13) (hoff 0 rfl) rfl
    exact dp_v (v := (pt Bn Bo)) wn (rv_move e0) rfl hJ) ?_
  refine ac rfl (by
    intro k; rintro ⟨b2, a5, c6⟩ ρ σm hJ hoff hdep
    have e5 := hdep 1 rfl rfl 5 rfl
    exact dp_v (v := (pt Bn Bo)) wn (rv_nilCheck e5) rfl hJ) ?_
  refine all_cons (by
    refine ⟨?_, ?_⟩
    ·rintro ⟨b2, a5, c6⟩ ρ σm hJ hoff hdep
     have e6 := hdep 2 rfl rfl 6 rfl
     obtain ⟨H, m⟩ := id hJ
     have hc1 := H.cell (u := (Sl Bk Bj Bl)) (o' := Bo) 0 0 rfl rfl rfl
     exact dp_v (v := (Sl Bk Bj Bl)) wn (rv_load1 Tryz.underlying105 rfl e6 hc1) rfl hJ
    refine ⟨?_, ?_⟩
    ·rintro ⟨b2, a5, c6⟩ ρ σm hJ hoff hdep
     have e6 := hdep 2 rfl rfl 6 rfl
     obtain ⟨H, m⟩ := id hJ
     have hc1 := H.cell (u := (Sl Bk Bj Bl)) (o' := Bo) 1 0 rfl rfl rfl
     exact dp_v (v := (Sl Bk Bj Bl)) wn (rv_load1 Tryz.underlying105 rfl e6 hc1) rfl hJ
    trivial) ?_
  refine ac rfl (by
    intro k; rintro ⟨b2, a5, c6⟩ ρ σm hJ hoff hdep
    have e1 := look_off (N := 13) (hoff 1 rfl) rfl
    exact dp_v (v := (.iface 37 (.agg #[(I Bg.1), (I Bg.2)]))) wn (rv_move e1) rfl hJ) ?_
  refine ac rfl (by
    intro k; rintro ⟨b2, a5, c6⟩ ρ σm hJ hoff hdep
    have e8 := hdep 4 rfl rfl 8 rfl
    exact dp_v (v := (.agg #[(I Bg.1), (I Bg.2)])) wn (rv_typeAssert Tryz.underlying37 rfl e8) rfl hJ) ?_
  refine all_cons (by
    refine ⟨?_, ?_⟩
    ·rintro ⟨b2, a5, c6⟩ ρ σm hJ hoff hdep
     have e9 : look 13 ρ 9 = (.agg #[(I Bg.1), (I Bg.2)]) := hdep 5 rfl rfl 9 rfl
     obtain ⟨H, m⟩ := id hJ
     refine dp_ex wn (ex_buildSlice (el := n0) (xs := ([(Bg.1, Bg.2)] : List (Int × Int))) (ps := [(0, (.agg #[(I Bg.1), (I Bg.2)]))]) (cs := [(I Bg.1), (I Bg.2)]) H hn0 Tryz.underlying105 ti37 rfl (by show [(0, look 13 ρ 9)] = _; rw [e9]) (by kernel_rfl) (.cons (c := [(I Bg.1), (I Bg.2)]) ⟨[(I Bg.1)], [(I Bg.2)], rfl, rfl, rfl⟩ (.nil)) rfl) ?_
     rintro _ σq ⟨b2x, rfl, H2, m2⟩
     exact ⟨_, (b2x, a5, c6), rfl, rfl, ⟨H2.sel' [0, 1, 2] rfl rfl, m.comp0 m2⟩, stab [0, 1, 2, 3, 4, 5] (by kernel_rfl) ⟨rfl, rfl, rfl, rfl, rfl, rfl, trivial⟩⟩
    trivial) ?_
  refine all_cons (by
    refine ⟨?_, ?_⟩
    ·rintro ⟨b2, a5, c6⟩ ρ σm hJ hoff hdep
     have e7 := hdep 3 rfl rfl 7 rfl
     have e10 := hdep 6 rfl rfl 10 rfl
     obtain ⟨H, m⟩ := id hJ
     refine dp_ex wn (ex_append H (i := 2) rfl Tryz.underlying105 Tryz.underlying105 ti37 rfl rfl (by decide) ((H.own 0 rfl).rd.sc) hx4 (Nat.zero_le _) e7 e10) ?_
     rintro _ σq ⟨a5x, c6x, rfl, H2, m2⟩
     exact ⟨_, (b2, a5x, c6x), rfl, rfl, ⟨H2.sel' [0, 1, 2] rfl rfl, m.comp m2⟩, stab [0, 1, 2, 3, 4, 5, 6] (by kernel_rfl) ⟨rfl, rfl, rfl, rfl, rfl, rfl, rfl, trivial⟩⟩
    trivial) ?_
  exact all_nil
 ·rintro ⟨b2, a5, c6⟩ ρ σ7 hJ hoff hrel
  have e0 := look_off (N := 13) (hoff 0 rfl) rfl
  have e4 := hrel 0 rfl 4 rfl
  have e11 := hrel 7 rfl 11 rfl
  obtain ⟨H, -⟩ := (show Hp S0 σ0 σ7 [Ch.own 0 0 (Sl a5 xs3 c6) xs3, Ch.own n0 n0 (Sl (some ⟨b2, 0, none⟩) ([(Bg.1, Bg.2)] : List (Int × Int)) 1) ([(Bg.1, Bg.2)] : List (Int × Int)), Ch.bx Bm Bn Bo [(Sl Bk Bj Bl)] Bp Bq] ∧ Md (fun i => (cov []) i ∨ (fun b => blk (Sl Bk Bj Bl) = some b) i) σ0 σ7 from hJ)
  clear hJ Hs
  rw [fr_lookL (L := [(0, (pt Bn Bo)), (4, (pt Bn Bo)), (11, (Sl a5 xs3 c6))]) ⟨e0, e4, e11, trivial⟩]
  clear hoff hrel e0 e4 e11
  refine st (v := (pt Bn Bo)) (rv_nilCheck rfl) ?_
  refine st_exS (ex_store_box (k := 0) (cs := [(Sl Bk Bj Bl)]) (vs := [(Sl a5 xs3 c6)]) (cs' := [(Sl a5 xs3 c6)]) H (i := 2) rfl ti105 rfl rfl rfl rfl rfl (Nat.le_of_ble_eq_true rfl) (by simp [plain]) rfl) wn ?_
  rintro σ8 ⟨H, -⟩
  refine w_end ?_
  obtain rfl := sj h
  exact fin_end (v := (.tuple #[])) (results_ok Tryz.results185 res_nil rfl) ⟨a5, c6, rfl, rfl⟩ (H.sel' [0, 1] rfl rfl)

theorem c_impl_hitHeap_Len {Bj : List (Int × Int)} {Bk : Option Addr} {Bl : Nat} {r : Int} (h : M.impl_hitHeap_Len Bj = some r) :
    Cal2 Tryz.prog 180 [(Sl Bk Bj Bl)] [Ch.ro 0 (Sl Bk Bj Bl) Bj] (fun n0 v L => v = (I r) ∧ L = []) := by
 refine cal2 (n := 5) Tryz.func180 rfl rfl rfl rfl ?_
 intro S0 σ0 n0 hn0 H
 unfold M.impl_hitHeap_Len at h
 refine c_seq (rg (sa (I 0) rfl (w_end (q_then (c_seq (rg (sm (Sl Bk Bj Bl) rfl (st (v := (I (Bj.length : Int))) (rv_len Tryz.underlying105 rfl) (sa (I (Bj.length : Int)) rfl (w_end (q_then ?_)))))))))))
 refine c_ret ?_
 obtain rfl := sj h
 exact fin_ret (v := (I (Bj.length : Int))) (results_ok Tryz.results180 (res_tmp (v := (I (Bj.length : Int))) rfl res_nil) rfl) ⟨rfl, rfl⟩ (H.sel' [] rfl rfl)

theorem c_cmp_isNaN_int {Bd : Int}  {r : Bool} (h : M.cmp_isNaN_int Bd = some r) :
    Cal2 Tryz.prog 105 [(I Bd)] [] (fun n0 v L => v = (B r) ∧ L = []) := by
 refine cal2 (n := 6) Tryz.func105 rfl rfl rfl rfl ?_
 intro S0 σ0 n0 hn0 H
 unfold M.cmp_isNaN_int at h
 refine c_seq (rg (sa (B false) rfl (w_end (q_then (c_seq (rg (sm (I Bd) rfl (sm (I Bd) rfl (st (v := (B (Bd != Bd))) (rv_neq (a := Bd) (b := Bd) rfl rfl) (sa (B (Bd != Bd)) rfl (w_end ?_)))))))))))
 refine q_then (c_ret ?_)
 obtain rfl := sj h
 exact fin_ret (v := (B (Bd != Bd))) (results_ok Tryz.results105 (res_tmp (v := (B (Bd != Bd))) rfl res_nil) rfl) ⟨rfl, rfl⟩ (H.sel' [] rfl rfl)

theorem c_cmp_Compare_int {Bd : Int} {Br : Int}  {r : Int} (h : M.cmp_Compare_int Bd Br = some r) :
    Cal2 Tryz.prog 85 [(I Bd), (I Br)] [] (fun n0 v L => v = (I r) ∧ L = []) := by
 refine cal2 (n := 20) Tryz.func85 rfl rfl rfl rfl ?_
 intro S0 σ0 n0 hn0 H
 unfold M.cmp_Compare_int at h
 refine c_seq (rg (sa (I 0) rfl (w_end (q_then (c_seq (rg (sm (I Bd) rfl ?_)))))))
 revert h; refine br fun r1 hx2 h => ?_
 have hc3 := c_cmp_isNaN_int hx2
 refine st_call (cx_call hc3 (ent_f hc3.fn rfl) hn0 (H.sel' [] rfl rfl : Hp S0 σ0 _ ([] ++ _))) wn ?_
 rintro _ σ4 ⟨_, ⟨rfl, rfl⟩, H, -⟩
 replace H : Hp _ _ _ [] := H
 refine sa (B r1) rfl (w_end (q_then (c_seq (rg (sm (I Br) rfl ?_)))))
 revert h; refine br fun r5 hx6 h => ?_
 have hc7 := c_cmp_isNaN_int hx6
 refine st_call (cx_call hc7 (ent_f hc7.fn rfl) hn0 (H.sel' [] rfl rfl : Hp S0 σ0 _ ([] ++ _))) wn ?_
 rintro _ σ8 ⟨_, ⟨rfl, rfl⟩, H, -⟩
 replace H : Hp _ _ _ [] := H
 refine sa (B r5) rfl (w_end (q_then (c_seq (c_seq (rg (sm (B r1) rfl (w_end (q_then ?_))))))))
 refine cd_cond r1 rfl (fun hb9 => ?_) (fun hb9 => ?_)
 ·replace h := bif_t hb9 h
  refine c_seq (c_seq (rg (sm (B r5) rfl (w_end (q_then ?_)))))
  refine cd_cond r5 rfl (fun hb10 => ?_) (fun hb10 => ?_)
  ·replace h := bif_t hb10 h
   refine c_seq (rg (sa (I 0) rfl (w_end (q_then (c_ret (q_then_r (q_then_r ?_)))))))
   obtain rfl := sj h
   exact fin_ret (v := (I 0)) (results_ok Tryz.results85 (res_tmp (v := (I 0)) rfl res_nil) rfl) ⟨rfl, rfl⟩ (H.sel' [] rfl rfl)
  ·replace h := bif_f hb10 h
   refine c_skip (q_then (c_seq (rg (sa (I (-1)) rfl (w_end (q_then (c_ret (q_then_r ?_))))))))
   obtain rfl := sj h
   exact fin_ret (v := (I (-1))) (results_ok Tryz.results85 (res_tmp (v := (I (-1))) rfl res_nil) rfl) ⟨rfl, rfl⟩ (H.sel' [] rfl rfl)
 ·replace h := bif_f hb9 h
  refine c_skip (q_then (c_seq (c_seq (rg (sm (B r5) rfl (w_end (q_then ?_)))))))
  refine cd_cond r5 rfl (fun hb11 => ?_) (fun hb11 => ?_)
  ·replace h := bif_t hb11 h
   refine c_seq (rg (sa (I 1) rfl (w_end (q_then (c_ret (q_then_r ?_))))))
   obtain rfl := sj h
   exact fin_ret (v := (I 1)) (results_ok Tryz.results85 (res_tmp (v := (I 1)) rfl res_nil) rfl) ⟨rfl, rfl⟩ (H.sel' [] rfl rfl)
  ·replace h := bif_f hb11 h
   refine c_skip (q_then (c_seq (c_seq (rg (sm (I Bd) rfl (sm (I Br) rfl (st (v := (B (decide (Bd < Br)))) (rv_lss (a := Bd) (b := Br) rfl rfl) (w_end (q_then ?_)))))))))
   refine cd_cond (decide (Bd < Br)) rfl (fun hb12 => ?_) (fun hb12 => ?_)
   ·replace h := bif_t hb12 h
    refine c_seq (rg (sa (I (-1)) rfl (w_end (q_then (c_ret (q_then_r ?_))))))
    obtain rfl := sj h
    exact fin_ret (v := (I (-1))) (results_ok Tryz.results85 (res_tmp (v := (I (-1))) rfl res_nil) rfl) ⟨rfl, rfl⟩ (H.sel' [] rfl rfl)
   ·replace h := bif_f hb12 h
    refine c_skip (q_then (c_seq (c_seq (rg (sm (I Bd) rfl (sm (I Br) rfl (st (v := (B (decide (Br < Bd)))) (rv_gtr (a := Bd) (b := Br) rfl rfl) (w_end (q_then ?_)))))))))
    refine cd_cond (decide (Br < Bd)) rfl (fun hb13 => ?_) (fun hb13 => ?_)
    ·replace h := bif_t hb13 h
     refine c_seq (rg (sa (I 1) rfl (w_end (q_then (c_ret (q_then_r ?_))))))
     obtain rfl := sj h
     exact fin_ret (v := (I 1)) (results_ok Tryz.results85 (res_tmp (v := (I 1)) rfl res_nil) rfl) ⟨rfl, rfl⟩ (H.sel' [] rfl rfl)
    ·replace h := bif_f hb13 h
     refine c_skip (q_then (c_seq (rg (sa (I 0) rfl (w_end (q_then (c_ret ?_)))))))
     obtain rfl := sj h
     exact fin_ret (v := (I 0)) (results_ok Tryz.results85 (res_tmp (v := (I 0)) rfl res_nil) rfl) ⟨rfl, rfl⟩ (H.sel' [] rfl rfl)

theorem c_cmp_Or_int {Bs : List Int} {Bt : Option Addr} {Bu : Nat} {r : Int} (h : M.cmp_Or_int Bs = some r) :
    Cal2 Tryz.prog 88 [(Sl Bt Bs Bu)] [Ch.ro 0 (Sl Bt Bs Bu) Bs] (fun n0 v L => v = (I r) ∧ L = []) := by
 refine cal2 (n := 18) Tryz.func88 rfl rfl rfl rfl ?_
 intro S0 σ0 n0 hn0 H
 unfold M.cmp_Or_int at h
 refine c_seq (rg (sa (I 0) rfl (w_end (q_then (c_seq (rg (sa (I 0) rfl (w_end (q_then (c_seq (c_seq ?_)))))))))))
 refine rg (sm (Sl Bt Bs Bu) rfl (st (v := (I (Bs.length : Int))) (rv_len Tryz.underlying26 rfl) (sm (I 0) rfl (w_end (q_then ?_)))))
 obtain ⟨o1, hj, h'⟩ := bind_some h
 clear h
 refine c_cut (fun e a w => (∃ t, o1 = (.inl t) ∧ e = .normal ∧ ∃ (ρ : Nat → Value) (σ : St), a = fr 18 (updL ρ [(3, (I 0))]) ∧ w = σ.w ∧ Hp S0 σ0 σ []) ∨ (∃ t, o1 = (.inr t) ∧ e = .ret ∧ ∃ (ρ : Nat → Value) (σ : St), a = fr 18 (updL ρ [(2, (I t))]) ∧ w = σ.w ∧ Hp S0 σ0 σ [])) ?_ ?_
 ·clear h'
  rename _ = some o1 => h
  refine c_blk (wp_loopM _ h (fun s2 a w => ∃ (ρ : Nat → Value) (σ : St), a = fr 18 (updL ρ [(3, (I 0)), (6, (Sl Bt Bs Bu)), (7, (I (Bs.length : Int))), (8, (I s2))]) ∧ w = σ.w ∧ Hp S0 σ0 σ [Ch.ro 0 (Sl Bt Bs Bu) Bs]) ⟨_, σ0, fr_join ⟨rfl, rfl, rfl, rfl, trivial⟩, rfl, H.sel' [0] rfl rfl⟩ ?_)
  clear h H
  rintro s2 a w o ⟨ρ, σ3, rfl, rfl, H⟩ h hres
  refine c_seq (rg (st (v := (B (decide (s2 < (Bs.length : Int))))) (rv_lss (a := s2) (b := (Bs.length : Int)) rfl rfl) (w_end (q_then (c_seq ?_)))))
  refine cd_cond (decide (s2 < (Bs.length : Int))) rfl (fun hb4 => ?_) (fun hb4 => ?_)
  ·replace h := bif_t hb4 h
   refine c_skip (q_then (c_seq (c_blk (c_seq (rg ?_)))))
   revert h; refine br fun x5 hx6 h => ?_
   obtain ⟨b8, o9, hi7, -⟩ := (H.ro 0 rfl).ix hx6
   refine st (v := (pt b8 o9)) (rv_ix Tryz.underlying26 ti3 rfl rfl hi7) ?_
   have hc10 := ((H.ro 0 rfl).at hx6 hi7).int
   refine st (v := (I x5)) (rv_load1 Tryz.underlying3 rfl rfl hc10) (sa (I x5) rfl (w_end (q_then (c_seq (rg (sm (I x5) rfl (sm (I 0) rfl (st (v := (B (x5 != 0))) (rv_neq (a := x5) (b := 0) rfl rfl) (w_end (q_then ?_))))))))))
   refine cd_cond (x5 != 0) rfl (fun hb11 => ?_) (fun hb11 => ?_)
   ·replace h := bif_t hb11 h
    refine c_seq (rg (sm (I x5) rfl (sa (I x5) rfl (w_end (q_then (c_ret (q_blk_r (q_then_r (q_then_r (q_blk_r ?_))))))))))
    obtain rfl := sj h
    obtain rfl := hres _ rfl
    exact .inr (⟨_, rfl, rfl, _, σ3, fr_join ⟨rfl, trivial⟩, rfl, H.sel' [] rfl rfl⟩)
   ·replace h := bif_f hb11 h
    refine c_skip (q_blk (q_then (rg (st (v := (I (w64 (s2 + 1)))) (rv_add (a := s2) (b := 1) rfl rfl) (sm (I (w64 (s2 + 1))) rfl (w_end (q_then ?_)))))))
    obtain rfl := sj h
    exact ⟨_, rfl, _, σ3, fr_join ⟨rfl, rfl, rfl, rfl, trivial⟩, rfl, H.sel' [0] rfl rfl⟩
  ·replace h := bif_f hb4 h
   refine c_exit (q_then_x (q_then_x (q_blk_hit ?_)))
   obtain rfl := sj h
   obtain rfl := hres _ rfl
   exact .inl ⟨_, rfl, rfl, _, σ3, fr_join ⟨rfl, trivial⟩, rfl, H.sel' [] rfl rfl⟩
 ·clear hj
  have h := h'
  clear h' H
  rintro e a w (⟨t12, rfl, rfl, ρ, σ13, rfl, rfl, H⟩ | ⟨t14, rfl, rfl, ρ, σ15, rfl, rfl, H⟩)
  ·replace h := selim_l h
   refine q_then (c_seq (rg (sm (I 0) rfl (sa (I 0) rfl (w_end (q_then (c_ret ?_)))))))
   obtain rfl := sj h
   exact fin_ret (v := (I 0)) (results_ok Tryz.results88 (res_tmp (v := (I 0)) rfl res_nil) rfl) ⟨rfl, rfl⟩ (H.sel' [] rfl rfl)
  ·replace h := selim_r h
   refine q_then_r ?_
   obtain rfl := sj h
   exact fin_ret (v := (I t14)) (results_ok Tryz.results88 (res_tmp (v := (I t14)) rfl res_nil) rfl) ⟨rfl, rfl⟩ (H.sel' [] rfl rfl)

theorem c_impl_compareHits {Bv : Int × Int} {Bw : Int × Int}  {r : Int} (h : M.impl_compareHits Bv Bw = some r) :
    Cal2 Tryz.prog 50 [(.agg #[(I Bv.1), (I Bv.2)]), (.agg #[(I Bw.1), (I Bw.2)])] [] (fun n0 v L => v = (I r) ∧ L = []) := by
 refine cal2 (n := 17) Tryz.func50 rfl rfl rfl rfl ?_
 intro S0 σ0 n0 hn0 H
 unfold M.impl_compareHits at h
 refine c_seq (rg (st_ex (ex_box (cs := [(I Bv.1), (I Bv.2)]) H hn0 rfl rfl) wn ?_))
 rintro _ σ2 ⟨b1, rfl, H, -⟩
 refine st_ex (ex_box (cs := [(I Bw.1), (I Bw.2)]) H hn0 rfl rfl) wn ?_
 rintro _ σ4 ⟨b3, rfl, H, -⟩
 refine sa (I 0) rfl (w_end (q_then (c_seq ?_)))
 have hc5 := H.cell (u := (I Bv.2)) (o' := 1) 1 1 rfl rfl rfl
 have hc6 := H.cell (u := (I Bw.2)) (o' := 1) 0 1 rfl rfl rfl
 revert h; refine br fun r7 hx8 h => ?_
 have hc9 := c_cmp_Compare_int hx8
 have hc10 := H.cell (u := (I Bv.1)) (o' := 0) 1 0 rfl rfl rfl
 have hc11 := H.cell (u := (I Bw.1)) (o' := 0) 0 0 rfl rfl rfl
 have Hs := H
 refine rg2 (σ := σ4) (Nm := Unit) 9 [4] [[false], [true]] [[(0, 0)], [(0, 0)], [(0, 0)], [(0, 0)], [(0, 1)], [(0, 0), (1, 1)], [(0, 0), (1, 1)], [(0, 0), (1, 1)], [(0, 0), (1, 1)]] 1 [fun _ => fun σm => Hp S0 σ0 σm [Ch.bx n0 b3 0 [(I Bw.1), (I Bw.2)] [] [], Ch.bx n0 b1 0 [(I Bv.1), (I Bv.2)] [] []] ∧ Md (cov []) σ4 σm, fun _ => fun σm => Hp S0 σ0 σm [Ch.bx n0 b3 0 [(I Bw.1), (I Bw.2)] [] [], Ch.bx n0 b1 0 [(I Bv.1), (I Bv.2)] [] []] ∧ Md (cov []) σ4 σm] [fun _ => (pt b1 1), fun _ => (I Bv.2), fun _ => (pt b3 1), fun _ => (I Bw.2), fun _ => (I r7), fun _ => (pt b1 0), fun _ => (I Bv.1), fun _ => (pt b3 0), fun _ => (I Bw.1)] () (by kernel_rfl) (by kernel_rfl) ?_ ?_ ?_
 ·intro σm m0
  exact ⟨H.grow (m0.mono fun _ h => h.elim), m0⟩
 ·refine ac rfl (by
    intro k _nm ρ σm hJ hoff hdep
    have e2 := look_off (N := 17) (hoff 2 rfl) rfl
    exact dp_v (v := (pt b1 1)) wn (rv_fieldAddr (off := 1) (ft := 3) Tryz.underlying37 rfl ti3 rfl e2) rfl hJ) ?_
  refine all_cons (by
    refine ⟨?_, ?_⟩
    ·intro _nm ρ σm hJ hoff hdep
     have e5 := hdep 0 rfl rfl 5 rfl
     obtain ⟨H, m⟩ := id hJ
     have hc5 := H.cell (u := (I Bv.2)) (o' := 1) 1 1 rfl rfl rfl
     exact dp_v (v := (I Bv.2)) wn (rv_load1 Tryz.underlying3 rfl e5 hc5) rfl hJ
    trivial) ?_
  refine ac rfl (by
    intro k _nm ρ σm hJ hoff hdep
    have e3 := look_off (N := 17) (hoff 3 rfl) rfl
    exact dp_v (v := (pt b3 1)) wn (rv_fieldAddr (off := 1) (ft := 3) Tryz.underlying37 rfl ti3 rfl e3) rfl hJ) ?_
  refine all_cons (by
    refine ⟨?_, ?_⟩
    ·intro _nm ρ σm hJ hoff hdep
     have e7 := hdep 2 rfl rfl 7 rfl
     obtain ⟨H, m⟩ := id hJ
     have hc6 := H.cell (u := (I Bw.2)) (o' := 1) 0 1 rfl rfl rfl
     exact dp_v (v := (I Bw.2)) wn (rv_load1 Tryz.underlying3 rfl e7 hc6) rfl hJ
    trivial) ?_
  refine all_cons (by
    refine ⟨?_, ?_⟩
    ·intro _nm ρ σm hJ hoff hdep
     have e6 : look 17 ρ 6 = (I Bv.2) := hdep 1 rfl rfl 6 rfl
     have e8 : look 17 ρ 8 = (I Bw.2) := hdep 3 rfl rfl 8 rfl
     obtain ⟨H, m⟩ := id hJ
     refine dp_cx wn (cx_call hc9 (ent_f hc9.fn (by show [look 17 ρ 6, look 17 ρ 8] = _; rw [e6, e8])) hn0 (H.sel' [0, 1] rfl rfl : Hp S0 σ0 _ ([] ++ _))) ?_
     rintro _ σq ⟨_, ⟨rfl, rfl⟩, H2, m2⟩
     exact ⟨_, (), rfl, rfl, ⟨H2.sel' [0, 1] rfl rfl, m.comp0 m2⟩, stab [0, 1, 2, 3, 5, 6, 7, 8] (by kernel_rfl) ⟨rfl, rfl, rfl, rfl, rfl, rfl, rfl, rfl, trivial⟩⟩
    trivial) ?_
  refine ac rfl (by
    intro k _nm ρ σm hJ hoff hdep
    have e2 := look_off (N := 17) (hoff 2 rfl) rfl
    exact dp_v (v := (pt b1 0)) wn (rv_fieldAddr (off := 0) (ft := 3) Tryz.underlying37 rfl ti3 rfl e2) rfl hJ) ?_
  refine all_cons (by
    refine ⟨?_, ?_⟩
    ·intro _nm ρ σm hJ hoff hdep
     have e10 := hdep 5 rfl rfl 10 rfl
     obtain ⟨H, m⟩ := id hJ
     have hc10 := H.cell (u := (I Bv.1)) (o' := 0) 1 0 rfl rfl rfl
     exact dp_v (v := (I Bv.1)) wn (rv_load1 Tryz.underlying3 rfl e10 hc10) rfl hJ
    refine ⟨?_, ?_⟩
    ·intro _nm ρ σm hJ hoff hdep
     have e10 := hdep 5 rfl rfl 10 rfl
     obtain ⟨H, m⟩ := id hJ
     have hc10 := H.cell (u := (I Bv.1)) (o' := 0) 1 0 rfl rfl rfl
     exact dp_v (v := (I Bv.1)) wn (rv_load1 Tryz.underlying3 rfl e10 hc10) rfl hJ
    trivial) ?_
  refine ac rfl (by
    intro k _nm ρ σm hJ hoff hdep
    have e3 := look_off (N := 17) (hoff 3 rfl) rfl
    exact dp_v (v := (pt b3 0)) wn (rv_fieldAddr (off := 0) (ft := 3) Tryz.underlying37 rfl ti3 rfl e3) rfl hJ) ?_
  refine all_cons (by
    refine ⟨?_, ?_⟩
    ·intro _nm ρ σm hJ hoff hdep
     have e12 := hdep 7 rfl rfl 12 rfl
     obtain ⟨H, m⟩ := id hJ
     have hc11 := H.cell (u := (I Bw.1)) (o' := 0) 0 0 rfl rfl rfl
     exact dp_v (v := (I Bw.1)) wn (rv_load1 Tryz.underlying3 rfl e12 hc11) rfl hJ
    refine ⟨?_, ?_⟩
    ·intro _nm ρ σm hJ hoff hdep
     have e12 := hdep 7 rfl rfl 12 rfl
     obtain ⟨H, m⟩ := id hJ
     have hc11 := H.cell (u := (I Bw.1)) (o' := 0) 0 0 rfl rfl rfl
     exact dp_v (v := (I Bw.1)) wn (rv_load1 Tryz.underlying3 rfl e12 hc11) rfl hJ
    trivial) ?_
  exact all_nil
 ·intro _nm ρ σ12 hJ hoff hrel
  have e9 := hrel 4 rfl 9 rfl
  have e11 := hrel 6 rfl 11 rfl
  have e13 := hrel 8 rfl 13 rfl
  obtain ⟨H, -⟩ := (show Hp S0 σ0 σ12 [Ch.bx n0 b3 0 [(I Bw.1), (I Bw.2)] [] [], Ch.bx n0 b1 0 [(I Bv.1), (I Bv.2)] [] []] ∧ Md (cov []) σ4 σ12 from hJ)
  clear hJ Hs
  rw [fr_lookL (L := [(9, (I r7)), (11, (I Bv.1)), (13, (I Bw.1))]) ⟨e9, e11, e13, trivial⟩]
  clear hoff hrel e9 e11 e13
  revert h; refine br fun r13 hx14 h => ?_
  have hc15 := c_cmp_Compare_int hx14
  refine st_call (cx_call hc15 (ent_f hc15.fn rfl) hn0 (H.sel' [0, 1] rfl rfl : Hp S0 σ0 _ ([] ++ _))) wn ?_
  rintro _ σ16 ⟨_, ⟨rfl, rfl⟩, H, -⟩
  replace H : Hp _ _ _ [_, _] := H
  refine st_ex (ex_buildSlice (el := n0) (xs := ([r7, r13] : List Int)) (ps := [(0, (I r7)), (1, (I r13))]) (cs := [(I r7), (I r13)]) H hn0 Tryz.underlying26 ti3 rfl rfl (by kernel_rfl) (.cons (c := [(I r7)]) rfl (.cons (c := [(I r13)]) rfl (.nil))) rfl) wn ?_
  rintro _ σ18 ⟨b17, rfl, H, -⟩
  obtain ⟨σ19, hw20, H, -⟩ := H.pub 0 rfl (Nat.le_refl _)
  rw [← hw20]; clear hw20
  replace H := H.roLow 0 0 rfl (Nat.zero_le _)
  revert h; refine br fun r21 hx22 h => ?_
  have hc23 := c_cmp_Or_int (Bt := (some ⟨b17, 0, none⟩)) (Bu := 2) hx22
  refine st_call (cx_call hc23 (ent_f hc23.fn rfl) hn0 (H.sel' [0, 0, 1, 2, 3] rfl rfl : Hp S0 σ0 _ ([_] ++ _))) wn ?_
  rintro _ σ24 ⟨_, ⟨rfl, rfl⟩, H, -⟩
  replace H : Hp _ _ _ [_, _, _, _] := H
  refine sa (I r21) rfl (w_end (q_then (c_ret ?_)))
  obtain rfl := sj h
  exact fin_ret (v := (I r21)) (results_ok Tryz.results50 (res_tmp (v := (I r21)) rfl res_nil) rfl) ⟨rfl, rfl⟩ (H.sel' [] rfl rfl)

theorem c_impl_hitHeap_Less {Bj : List (Int × Int)} {By : Int} {Bz : Int} {Bk : Option Addr} {Bl : Nat} {r : Bool} (h : M.impl_hitHeap_Less Bj By Bz = some r) :
    Cal2 Tryz.prog 181 [(Sl Bk Bj Bl), (I By), (I Bz)] [Ch.ro 0 (Sl Bk Bj Bl) Bj] (fun n0 v L => v = (B r) ∧ L = []) := by
 refine cal2 (n := 17) Tryz.func181 rfl rfl rfl rfl ?_
 intro S0 σ0 n0 hn0 H
 unfold M.impl_hitHeap_Less at h
 refine c_seq (rg (sa (B false) rfl (w_end (q_then (c_seq ?_)))))
 refine rgP (σ := σ0) 8 (by kernel_rfl) (by kernel_rfl) (by kernel_rfl) ?_
 refine sq (v := (Sl Bk Bj Bl)) (rv_move rfl) (sq (v := (I By)) (rv_move rfl) ?_)
 revert h; refine br fun x1 hx2 h => ?_
 obtain ⟨b4, o5, hi3, -⟩ := (H.ro 0 rfl).ix hx2
 refine sq (v := (pt b4 o5)) (rv_ix Tryz.underlying105 ti37 rfl rfl hi3) ?_
 obtain ⟨_, ⟨_, _, rfl, rfl, rfl⟩, hl6, hc7⟩ := ((H.ro 0 rfl).at hx2 hi3).cells
 refine sq (v := (.agg #[(I x1.1), (I x1.2)])) (rv_load Tryz.underlying37 rfl ti37 rfl hl6 hc7) (sq (v := (Sl Bk Bj Bl)) (rv_move rfl) (sq (v := (I Bz)) (rv_move rfl) ?_))
 revert h; refine br fun x8 hx9 h => ?_
 obtain ⟨b11, o12, hi10, -⟩ := (H.ro 0 rfl).ix hx9
 refine sq (v := (pt b11 o12)) (rv_ix Tryz.underlying105 ti37 rfl rfl hi10) ?_
 obtain ⟨_, ⟨_, _, rfl, rfl, rfl⟩, hl13, hc14⟩ := ((H.ro 0 rfl).at hx9 hi10).cells
 refine sq (v := (.agg #[(I x8.1), (I x8.2)])) (rv_load Tryz.underlying37 rfl ti37 rfl hl13 hc14) (sq_end ?_)
 intro σ15 hm16
 replace H := H.grow (hm16.mono fun _ h => h); clear hm16
 revert h; refine br fun r17 hx18 h => ?_
 have hc19 := c_impl_compareHits hx18
 refine st_call (cx_call hc19 (ent_f hc19.fn rfl) hn0 (H.sel' [0] rfl rfl : Hp S0 σ0 _ ([] ++ _))) wn ?_
 rintro _ σ20 ⟨_, ⟨rfl, rfl⟩, H, -⟩
 replace H : Hp _ _ _ [_] := H
 refine st (v := (B (decide (0 < r17)))) (rv_gtr (a := r17) (b := 0) rfl rfl) (sa (B (decide (0 < r17))) rfl (w_end (q_then (c_ret ?_))))
 obtain rfl := sj h
 exact fin_ret (v := (B (decide (0 < r17)))) (results_ok Tryz.results181 (res_tmp (v := (B (decide (0 < r17)))) rfl res_nil) rfl) ⟨rfl, rfl⟩ (H.sel' [] rfl rfl)

theorem c_impl_hitHeap_Swap {Bj : List (Int × Int)} {By : Int} {Bz : Int} {Bk : Option Addr} {Bl : Nat} {r : (List (Int × Int))} (h : M.impl_hitHeap_Swap Bj By Bz = some r) :
    Cal2 Tryz.prog 182 [(Sl Bk Bj Bl), (I By), (I Bz)] [Ch.own 0 0 (Sl Bk Bj Bl) Bj] (fun n0 v L => v = (.tuple #[]) ∧ L = [Ch.own 0 0 (Sl Bk r Bl) r] ∧ r.length = Bj.length) := by
 refine cal2 (n := 20) Tryz.func182 rfl rfl rfl rfl ?_
 intro S0 σ0 n0 hn0 H
 unfold M.impl_hitHeap_Swap at h
 revert h; refine br fun x1 hx2 h => ?_
 obtain ⟨b4, o5, hi3, -⟩ := (H.own 0 rfl).ix hx2
 obtain ⟨_, ⟨_, _, rfl, rfl, rfl⟩, hl6, hc7⟩ := ((H.own 0 rfl).at hx2 hi3).cells
 revert h; refine br fun x8 hx9 h => ?_
 obtain ⟨b11, o12, hi10, -⟩ := (H.own 0 rfl).ix hx9
 obtain ⟨_, ⟨_, _, rfl, rfl, rfl⟩, hl13, hc14⟩ := ((H.own 0 rfl).at hx9 hi10).cells
 revert h; refine br fun x15 hx16 h => ?_
 obtain ⟨b18, o19, hi17, -⟩ := (H.own 0 rfl).ix hx16
 have Hs := H
 refine rg2 (σ := σ0) (Nm := Unit) 14 [13] [[false], [true]] [[(0, 0)], [(0, 0)], [(0, 0), (1, 1)], [(0, 0), (1, 1)], [(0, 0)], [(0, 0)], [(0, 0)], [(0, 0)], [(0, 0)], [(0, 0)], [(0, 0)], [(0, 0)], [(0, 0)], [(0, 1)]] 1 [fun _ => fun σm => Hp S0 σ0 σm [Ch.own 0 0 (Sl Bk Bj Bl) Bj] ∧ Md (cov []) σ0 σm, fun _ => fun σm => Hp S0 σ0 σm [Ch.own 0 0 (Sl Bk Bj Bl) (Bj.set By.toNat (x1.1, x1.2))] ∧ Md (fun i => (cov []) i ∨ (fun b => blk (Sl Bk Bj Bl) = some b) i) σ0 σm] [fun _ => (Sl Bk Bj Bl), fun _ => (I By), fun _ => (Sl Bk Bj Bl), fun _ => (I Bz), fun _ => (Sl Bk Bj Bl), fun _ => (I Bz), fun _ => (pt b4 o5), fun _ => (.agg #[(I x1.1), (I x1.2)]), fun _ => (Sl Bk Bj Bl), fun _ => (I By), fun _ => (pt b11 o12), fun _ => (.agg #[(I x8.1), (I x8.2)]), fun _ => (pt b18 o19), fun _ => undef] () (by kernel_rfl) (by kernel_rfl) ?_ ?_ ?_
 ·intro σm m0
  exact ⟨H.grow (m0.mono fun _ h => h.elim), m0⟩
 ·refine ac rfl (by
    intro k _nm ρ σm hJ hoff hdep
    have e0 := look_off (N := 20) (hoff 0 rfl) rfl
    exact dp_v (v := (Sl Bk Bj Bl)) wn (rv_move e0) rfl hJ) ?_
  refine ac rfl (by
    intro k _nm ρ σm hJ hoff hdep
    have e1 := look_off (N := 20) (hoff 1 rfl) rfl
    exact dp_v (v := (I By)) wn (rv_move e1) rfl hJ) ?_
  refine ac rfl (by
    intro k _nm ρ σm hJ hoff hdep
    have e0 := look_off (N := 20) (hoff 0 rfl) rfl
    exact dp_v (v := (Sl Bk Bj Bl)) wn (rv_move e0) rfl hJ) ?_
  refine ac rfl (by
    intro k _nm ρ σm hJ hoff hdep
    have e2 := look_off (N := 20) (hoff 2 rfl) rfl
    exact dp_v (v := (I Bz)) wn (rv_move e2) rfl hJ) ?_
  refine ac rfl (by
    intro k _nm ρ σm hJ hoff hdep
    have e0 := look_off (N := 20) (hoff 0 rfl) rfl
    exact dp_v (v := (Sl Bk Bj Bl)) wn (rv_move e0) rfl hJ) ?_
  refine ac rfl (by
    intro k _nm ρ σm hJ hoff hdep
    have e2 := look_off (N := 20) (hoff 2 rfl) rfl
    exact dp_v (v := (I Bz)) wn (rv_move e2) rfl hJ) ?_
  refine ac rfl (by
    intro k _nm ρ σm hJ hoff hdep
    have e10 := hdep 4 rfl rfl 10 rfl
    have e11 := hdep 5 rfl rfl 11 rfl
    exact dp_v (v := (pt b4 o5)) wn (rv_ix Tryz.underlying105 ti37 e10 e11 hi3) rfl hJ) ?_
  refine all_cons (by
    refine ⟨?_, ?_⟩
    ·intro _nm ρ σm hJ hoff hdep
     have e12 := hdep 6 rfl rfl 12 rfl
     obtain ⟨H, m⟩ := id hJ
     obtain ⟨_, ⟨_, _, rfl, rfl, rfl⟩, hl6, hc7⟩ := ((H.own 0 rfl).at hx2 hi3).cells
     exact dp_v (v := (.agg #[(I x1.1), (I x1.2)])) wn (rv_load Tryz.underlying37 rfl ti37 e12 hl6 hc7) rfl hJ
    trivial) ?_
  refine ac rfl (by
    intro k _nm ρ σm hJ hoff hdep
    have e0 := look_off (N := 20) (hoff 0 rfl) rfl
    exact dp_v (v := (Sl Bk Bj Bl)) wn (rv_move e0) rfl hJ) ?_
  refine ac rfl (by
    intro k _nm ρ σm hJ hoff hdep
    have e1 := look_off (N := 20) (hoff 1 rfl) rfl
    exact dp_v (v := (I By)) wn (rv_move e1) rfl hJ) ?_
  refine ac rfl (by
    intro k _nm ρ σm hJ hoff hdep
    have e14 := hdep 8 rfl rfl 14 rfl
    have e15 := hdep 9 rfl rfl 15 rfl
    exact dp_v (v := (pt b11 o12)) wn (rv_ix Tryz.underlying105 ti37 e14 e15 hi10) rfl hJ) ?_
  refine all_cons (by
    refine ⟨?_, ?_⟩
    ·intro _nm ρ σm hJ hoff hdep
     have e16 := hdep 10 rfl rfl 16 rfl
     obtain ⟨H, m⟩ := id hJ
     obtain ⟨_, ⟨_, _, rfl, rfl, rfl⟩, hl13, hc14⟩ := ((H.own 0 rfl).at hx9 hi10).cells
     exact dp_v (v := (.agg #[(I x8.1), (I x8.2)])) wn (rv_load Tryz.underlying37 rfl ti37 e16 hl13 hc14) rfl hJ
    trivial) ?_
  refine ac rfl (by
    intro k _nm ρ σm hJ hoff hdep
    have e6 := hdep 0 rfl rfl 6 rfl
    have e7 := hdep 1 rfl rfl 7 rfl
    exact dp_v (v := (pt b18 o19)) wn (rv_ix Tryz.underlying105 ti37 e6 e7 hi17) rfl hJ) ?_
  refine all_cons (by
    refine ⟨?_, ?_⟩
    ·intro _nm ρ σm hJ hoff hdep
     have e18 := hdep 12 rfl rfl 18 rfl
     have e13 := hdep 7 rfl rfl 13 rfl
     obtain ⟨H, m⟩ := id hJ
     refine dp_exS wn rfl (ex_store_own (e' := (x1.1, x1.2)) (vs := [(I x1.1), (I x1.2)]) (k := 0) H (i := 0) rfl ti37 hx16 hi17 e18 rfl e13 rfl rfl (Nat.le_of_ble_eq_true rfl) (by simp [plain]) (by rintro _ ⟨_, _, rfl, rfl, rfl⟩; exact ⟨[(I x1.1)], [(I x1.2)], rfl, rfl, rfl⟩)) ?_
     rintro σq ⟨H2, m2⟩
     exact ⟨_, (), rfl, ⟨H2.sel' [0] rfl rfl, m.comp m2⟩, stab [0, 1, 2, 3, 4, 5, 6, 7, 8, 9, 10, 11, 12] (by kernel_rfl) ⟨rfl, rfl, rfl, rfl, rfl, rfl, rfl, rfl, rfl, rfl, rfl, rfl, rfl, trivial⟩⟩
    trivial) ?_
  exact all_nil
 ·intro _nm ρ σ20 hJ hoff hrel
  have e0 := look_off (N := 20) (hoff 0 rfl) rfl
  have e8 := hrel 2 rfl 8 rfl
  have e9 := hrel 3 rfl 9 rfl
  have e17 := hrel 11 rfl 17 rfl
  obtain ⟨H, -⟩ := (show Hp S0 σ0 σ20 [Ch.own 0 0 (Sl Bk Bj Bl) (Bj.set By.toNat (x1.1, x1.2))] ∧ Md (fun i => (cov []) i ∨ (fun b => blk (Sl Bk Bj Bl) = some b) i) σ0 σ20 from hJ)
  clear hJ Hs
  rw [fr_lookL (L := [(0, (Sl Bk Bj Bl)), (8, (Sl Bk Bj Bl)), (9, (I Bz)), (17, (.agg #[(I x8.1), (I x8.2)]))]) ⟨e0, e8, e9, e17, trivial⟩]
  clear hoff hrel e0 e8 e9 e17
  have hsl : (Sl Bk Bj Bl) = (Sl Bk (Bj.set By.toNat (x1.1, x1.2)) Bl) := sl_len (by simp)
  rw [hsl]; rw [hsl] at H; clear hsl
  revert h; refine br fun x21 hx22 h => ?_
  obtain ⟨b24, o25, hi23, -⟩ := (H.own 0 rfl).ix hx22
  refine st (v := (pt b24 o25)) (rv_ix Tryz.underlying105 ti37 rfl rfl hi23) ?_
  refine st_exS (ex_store_own (e' := (x8.1, x8.2)) (vs := [(I x8.1), (I x8.2)]) (k := 0) H (i := 0) rfl ti37 hx22 hi23 rfl rfl rfl rfl rfl (Nat.le_of_ble_eq_true rfl) (by simp [plain]) (by rintro _ ⟨_, _, rfl, rfl, rfl⟩; exact ⟨[(I x8.1)], [(I x8.2)], rfl, rfl, rfl⟩)) wn ?_
  rintro σ26 ⟨H, -⟩
  have hsl : (Sl Bk (Bj.set By.toNat (x1.1, x1.2)) Bl) = (Sl Bk ((Bj.set By.toNat (x1.1, x1.2)).set Bz.toNat (x8.1, x8.2)) Bl) := sl_len List.length_set.symm
  rw [hsl]; rw [hsl] at H; clear hsl
  refine w_end ?_
  obtain rfl := sj h
  exact fin_end (v := (.tuple #[])) (results_ok Tryz.results182 res_nil rfl) ⟨rfl, rfl, (List.length_set.trans List.length_set)⟩ (H.sel' [0] rfl rfl)

theorem c_container_heap_up__impl_hitHeap {Bj : List (Int × Int)} {Ca : Int} {Bk : Option Addr} {Bl : Nat} {Bm Bn Bo : Nat} {Bp Bq : List Value} {r : (List (Int × Int))} (h : M.container_heap_up__impl_hitHeap Bj Ca = some r) :
    Cal2 Tryz.prog 131 [(.iface 132 (pt Bn Bo)), (I Ca)] [Ch.bx Bm Bn Bo [(Sl Bk Bj Bl)] Bp Bq, Ch.own 0 0 (Sl Bk Bj Bl) Bj] (fun n0 v L => ∃ (az1 : Option Addr), ∃ (cz2 : Nat), v = (.tuple #[]) ∧ L = [Ch.bx Bm Bn Bo [(Sl az1 r cz2)] Bp Bq, Ch.own 0 0 (Sl az1 r cz2) r]) := by
 refine cal2 (n := 23) Tryz.func131 rfl rfl rfl rfl ?_
 intro S0 σ0 n0 hn0 H
 unfold M.container_heap_up__impl_hitHeap at h
 obtain ⟨o1, hj, h'⟩ := bind_some h
 clear h
 refine c_cut (fun e a w => e = .normal ∧ ∃ (ρ : Nat → Value) (σ : St) (aj1 : Option Addr) (cj2 : Nat), a = fr 23 (updL ρ [(0, (.iface 132 (pt Bn Bo)))]) ∧ w = σ.w ∧ Hp S0 σ0 σ [Ch.bx Bm Bn Bo [(Sl aj1 o1 cj2)] Bp Bq, Ch.own 0 0 (Sl aj1 o1 cj2) o1]) ?_ ?_
 ·clear h'
  rename _ = some o1 => h
  refine c_blk (wp_loopM _ h (fun s2 a w => ∃ (ρ : Nat → Value) (σ : St) (aj1 : Option Addr) (cj2 : Nat), a = fr 23 (updL ρ [(0, (.iface 132 (pt Bn Bo))), (1, (I s2.2))]) ∧ w = σ.w ∧ Hp S0 σ0 σ [Ch.bx Bm Bn Bo [(Sl aj1 s2.1 cj2)] Bp Bq, Ch.own 0 0 (Sl aj1 s2.1 cj2) s2.1]) ⟨_, σ0, Bk, Bl, fr_join ⟨rfl, rfl, trivial⟩, rfl, H.sel' [0, 1] rfl rfl⟩ ?_)
  clear h H
  rintro s2 a w o ⟨ρ, σ3, a4, c5, rfl, rfl, H⟩ h hres
  refine c_blk (c_seq (rg (sm (I s2.2) rfl (st (v := (I (w64 (s2.2 - 1)))) (rv_sub (a := s2.2) (b := 1) rfl rfl) ?_))))
  refine st (v := (I (w64 ((w64 (s2.2 - 1)).tdiv 2)))) (rv_quo (a := (w64 (s2.2 - 1))) (b := 2) rfl rfl (by decide)) ?_
  refine sa (I (w64 ((w64 (s2.2 - 1)).tdiv 2))) rfl (w_end (q_then (c_seq (c_seq ?_))))
  obtain ⟨o6, hj, h'⟩ := bind_some h
  clear h
  refine c_cut (fun e a w => e = .normal ∧ ∃ (ρ : Nat → Value) (σ : St), a = fr 23 (updL ρ [(0, (.iface 132 (pt Bn Bo))), (1, (I s2.2)), (4, (I (w64 ((w64 (s2.2 - 1)).tdiv 2)))), (17, (B o6))]) ∧ w = σ.w ∧ Hp S0 σ0 σ [Ch.own 0 0 (Sl a4 s2.1 c5) s2.1, Ch.bx Bm Bn Bo [(Sl a4 s2.1 c5)] Bp Bq]) ?_ ?_
  ·clear h'
   rename _ = some o6 => h
   refine rg (sm (I (w64 ((w64 (s2.2 - 1)).tdiv 2))) rfl (sm (I s2.2) rfl (st (v := (B ((w64 ((w64 (s2.2 - 1)).tdiv 2)) == s2.2))) (rv_eql (a := (w64 ((w64 (s2.2 - 1)).tdiv 2))) (b := s2.2) rfl rfl) (sm (B ((w64 ((w64 (s2.2 - 1)).tdiv 2)) == s2.2)) rfl ?_))))
   rcases Bool.eq_false_or_eq_true ((w64 ((w64 (s2.2 - 1)).tdiv 2)) == s2.2) with hb7 | hb7
   ·replace h := bif_t hb7 h
    refine st_skip (congrArg some hb7) (st_skip (congrArg some hb7) (st_skip (congrArg some hb7) (st_skip (congrArg some hb7) (st_skip (congrArg some hb7) (st (v := (B true)) (rv_pick_t (congrArg B hb7) rfl) (w_end ?_))))))
    obtain rfl := sj h
    exact ⟨rfl, _, σ3, fr_join ⟨rfl, rfl, rfl, rfl, trivial⟩, rfl, H.sel' [1, 0] rfl rfl⟩
   ·replace h := bif_f hb7 h
    refine st_g (v := (.iface 132 (pt Bn Bo))) (congrArg some hb7) (rv_move rfl) (st_g (v := (I s2.2)) (congrArg some hb7) (rv_move rfl) (st_g (v := (I (w64 ((w64 (s2.2 - 1)).tdiv 2)))) (congrArg some hb7) (rv_move rfl) ?_))
    revert h; refine br fun r8 hx9 h => ?_
    have hc10 := c_impl_hitHeap_Less (Bk := a4) (Bl := c5) hx9
    have hle := Nat.le_trans hn0 H.size
    refine st_call (cx_lend (Loan.lend Loan.nil) hc10 (ent_iv hc10.fn (by kernel_rfl) Tryz.underlying132 Tryz.underlying105 rfl rfl (H.cell (u := (Sl a4 s2.1 c5)) (o' := Bo) 0 0 rfl rfl rfl) rfl) (show Hp S0 σ0 _ ([Ch.own 0 0 (Sl a4 s2.1 c5) s2.1] ++ ([] ++ [Ch.bx Bm Bn Bo [(Sl a4 s2.1 c5)] Bp Bq])) from (H.sel' [1, 0] rfl rfl)) (by rintro _ _ _ ⟨rfl, rfl⟩; exact trivial)) (wanted_yes rfl (by exact (congrArg some hb7))) ?_
    rintro _ σ11 ⟨_, ⟨rfl, rfl⟩, H, -, -⟩
    replace H : Hp _ _ _ [_, _] := H
    clear hle
    replace H : Hp _ _ _ [_, _] := H
    refine st_g (v := (B (!r8))) (congrArg some hb7) (rv_not rfl) (st (v := (B (!r8))) (rv_pick_f (congrArg B hb7) rfl) (w_end ?_))
    obtain rfl := sj h
    exact ⟨rfl, _, σ11, fr_join ⟨rfl, rfl, rfl, rfl, trivial⟩, rfl, H.sel' [0, 1] rfl rfl⟩
  ·clear hj
   have h := h'
   clear h' H
   rintro e a w ⟨rfl, ρ, σ12, rfl, rfl, H⟩
   refine q_then ?_
   refine cd_cond o6 rfl (fun hb13 => ?_) (fun hb13 => ?_)
   ·replace h := bif_t hb13 h
    refine c_exit (q_then_x ?_)
    refine q_blk_x (by decide) ?_
    refine q_then_x (q_blk_hit ?_)
    obtain rfl := sj h
    obtain rfl := hres _ rfl
    exact ⟨rfl, _, σ12, a4, c5, fr_join ⟨rfl, trivial⟩, rfl, H.sel' [1, 0] rfl rfl⟩
   ·replace h := bif_f hb13 h
    refine c_skip (q_then (c_seq (rg (sm (.iface 132 (pt Bn Bo)) rfl (sm (I (w64 ((w64 (s2.2 - 1)).tdiv 2))) rfl (sm (I s2.2) rfl ?_))))))
    revert h; refine br fun r14 hx15 h => ?_
    have hc16 := c_impl_hitHeap_Swap (Bk := a4) (Bl := c5) hx15
    refine st_call (cx_call hc16 (ent_iv hc16.fn (by kernel_rfl) Tryz.underlying132 Tryz.underlying105 rfl rfl (H.cell (u := (Sl a4 s2.1 c5)) (o' := Bo) 1 0 rfl rfl rfl) rfl) hn0 (H.sel' [0, 1] rfl rfl : Hp S0 σ0 _ ([_] ++ _))) wn ?_
    rintro _ σ18 ⟨_, ⟨rfl, rfl, hn17⟩, H, -⟩
    replace H : Hp _ _ _ [_, _] := H
    have hsl : (Sl a4 s2.1 c5) = (Sl a4 r14 c5) := sl_len hn17.symm
    try rw [hsl]
    try rw [hsl] at H
    clear hsl
    refine w_end (q_then (rg (sm (I (w64 ((w64 (s2.2 - 1)).tdiv 2))) rfl (sa (I (w64 ((w64 (s2.2 - 1)).tdiv 2))) rfl (w_end (q_blk (q_then ?_)))))))
    obtain rfl := sj h
    exact ⟨_, rfl, _, σ18, a4, c5, fr_join ⟨rfl, rfl, trivial⟩, rfl, H.sel' [1, 0] rfl rfl⟩
 ·clear hj
  have h := h'
  clear h' H
  rintro e a w ⟨rfl, ρ, σ19, a20, c21, rfl, rfl, H⟩
  obtain rfl := sj h
  exact fin_end (v := (.tuple #[])) (results_ok Tryz.results131 res_nil rfl) ⟨a20, c21, rfl, rfl⟩ (H.sel' [0, 1] rfl rfl)

theorem c_container_heap_Push__impl_hitHeap__impl_Hit {Bj : List (Int × Int)} {Bg : Int × Int} {Bk : Option Addr} {Bl : Nat} {Bm Bn Bo : Nat} {Bp Bq : List Value} {r : (List (Int × Int))} (h : M.container_heap_Push__impl_hitHeap__impl_Hit Bj Bg = some r) :
    Cal2 Tryz.prog 121 [(.iface 132 (pt Bn Bo)), (.iface 37 (.agg #[(I Bg.1), (I Bg.2)]))] [Ch.bx Bm Bn Bo [(Sl Bk Bj Bl)] Bp Bq, Ch.own 0 0 (Sl Bk Bj Bl) Bj] (fun n0 v L => ∃ (az1 : Option Addr), ∃ (cz2 : Nat), v = (.tuple #[]) ∧ L = [Ch.bx Bm Bn Bo [(Sl az1 r cz2)] Bp Bq, Ch.own 0 0 (Sl az1 r cz2) r]) := by
 refine cal2 (n := 12) Tryz.func121 rfl rfl rfl rfl ?_
 intro S0 σ0 n0 hn0 H
 unfold M.container_heap_Push__impl_hitHeap__impl_Hit at h
 refine c_seq (rg (sm (.iface 132 (pt Bn Bo)) rfl (sm (.iface 37 (.agg #[(I Bg.1), (I Bg.2)])) rfl ?_)))
 revert h; refine br fun r1 hx2 h => ?_
 have hc3 := c_impl_hitHeap_Push__impl_Hit (Bm := Bm) (Bn := Bn) (Bo := Bo) (Bp := Bp) (Bq := Bq) (Bk := Bk) (Bl := Bl) hx2
 refine st_call (cx_call hc3 (ent_ip hc3.fn (by kernel_rfl) Tryz.underlying132 rfl rfl) hn0 (H.sel' [0, 1] rfl rfl : Hp S0 σ0 _ ([_, _] ++ _))) wn ?_
 rintro _ σ6 ⟨_, ⟨a4, c5, rfl, rfl⟩, H, -⟩
 replace H : Hp _ _ _ [_, _] := H
 refine w_end (q_then (rg (sm (.iface 132 (pt Bn Bo)) rfl (sm (.iface 132 (pt Bn Bo)) rfl ?_))))
 revert h; refine br fun r7 hx8 h => ?_
 have hc9 := c_impl_hitHeap_Len (Bk := a4) (Bl := c5) hx8
 have hle := Nat.le_trans hn0 H.size
 refine st_call (cx_lend (Loan.lend Loan.nil) hc9 (ent_iv hc9.fn (by kernel_rfl) Tryz.underlying132 Tryz.underlying105 rfl rfl (H.cell (u := (Sl a4 r1 c5)) (o' := Bo) 0 0 rfl rfl rfl) rfl) (show Hp S0 σ0 _ ([Ch.own 0 0 (Sl a4 r1 c5) r1] ++ ([] ++ [Ch.bx Bm Bn Bo [(Sl a4 r1 c5)] Bp Bq])) from (H.sel' [1, 0] rfl rfl)) (by rintro _ _ _ ⟨rfl, rfl⟩; exact trivial)) wn ?_
 rintro _ σ10 ⟨_, ⟨rfl, rfl⟩, H, -, -⟩
 replace H : Hp _ _ _ [_, _] := H
 clear hle
 replace H : Hp _ _ _ [_, _] := H
 refine st (v := (I (w64 (r7 - 1)))) (rv_sub (a := r7) (b := 1) rfl rfl) ?_
 revert h; refine br fun r11 hx12 h => ?_
 have hc13 := c_container_heap_up__impl_hitHeap (Bm := Bm) (Bn := Bn) (Bo := Bo) (Bp := Bp) (Bq := Bq) (Bk := a4) (Bl := c5) hx12
 refine st_call (cx_call hc13 (ent_f hc13.fn rfl) hn0 (H.sel' [1, 0] rfl rfl : Hp S0 σ0 _ ([_, _] ++ _))) wn ?_
 rintro _ σ16 ⟨_, ⟨a14, c15, rfl, rfl⟩, H, -⟩
 replace H : Hp _ _ _ [_, _] := H
 refine w_end ?_
 obtain rfl := sj h
 exact fin_end (v := (.tuple #[])) (results_ok Tryz.results121 res_nil rfl) ⟨a14, c15, rfl, rfl⟩ (H.sel' [0, 1] rfl rfl)

theorem c_container_heap_down__impl_hitHeap {Bj : List (Int × Int)} {Cb : Int} {Aw : Int} {Bk : Option Addr} {Bl : Nat} {Bm Bn Bo : Nat} {Bp Bq : List Value} {r : Bool × (List (Int × Int))} (h : M.container_heap_down__impl_hitHeap Bj Cb Aw = some r) :
    Cal2 Tryz.prog 132 [(.iface 132 (pt Bn Bo)), (I Cb), (I Aw)] [Ch.bx Bm Bn Bo [(Sl Bk Bj Bl)] Bp Bq, Ch.own 0 0 (Sl Bk Bj Bl) Bj] (fun n0 v L => ∃ (az1 : Option Addr), ∃ (cz2 : Nat), v = (B r.1) ∧ L = [Ch.bx Bm Bn Bo [(Sl az1 r.2 cz2)] Bp Bq, Ch.own 0 0 (Sl az1 r.2 cz2) r.2]) := by
 refine cal2 (n := 48) Tryz.func132 rfl rfl rfl rfl ?_
 intro S0 σ0 n0 hn0 H
 unfold M.container_heap_down__impl_hitHeap at h
 refine c_seq (rg (sa (B false) rfl (w_end (q_then (c_seq (rg (sm (I Cb) rfl (sa (I Cb) rfl (w_end (q_then (c_seq ?_)))))))))))
 obtain ⟨o1, hj, h'⟩ := bind_some h
 clear h
 refine c_cut (fun e a w => e = .normal ∧ ∃ (ρ : Nat → Value) (σ : St) (aj1 : Option Addr) (cj2 : Nat), a = fr 48 (updL ρ [(0, (.iface 132 (pt Bn Bo))), (1, (I Cb)), (7, (I o1.2))]) ∧ w = σ.w ∧ Hp S0 σ0 σ [Ch.bx Bm Bn Bo [(Sl aj1 o1.1 cj2)] Bp Bq, Ch.own 0 0 (Sl aj1 o1.1 cj2) o1.1]) ?_ ?_
 ·clear h'
  rename _ = some o1 => h
  refine c_blk (wp_loopM _ h (fun s2 a w => ∃ (ρ : Nat → Value) (σ : St) (aj1 : Option Addr) (cj2 : Nat), a = fr 48 (updL ρ [(0, (.iface 132 (pt Bn Bo))), (1, (I Cb)), (2, (I Aw)), (7, (I s2.2))]) ∧ w = σ.w ∧ Hp S0 σ0 σ [Ch.bx Bm Bn Bo [(Sl aj1 s2.1 cj2)] Bp Bq, Ch.own 0 0 (Sl aj1 s2.1 cj2) s2.1]) ⟨_, σ0, Bk, Bl, fr_join ⟨rfl, rfl, rfl, rfl, trivial⟩, rfl, H.sel' [0, 1] rfl rfl⟩ ?_)
  clear h H
  rintro s2 a w o ⟨ρ, σ3, a4, c5, rfl, rfl, H⟩ h hres
  refine c_blk (c_seq (rg (sm (I s2.2) rfl (st (v := (I (w64 (2 * s2.2)))) (rv_mul (a := 2) (b := s2.2) rfl rfl) (st (v := (I (w64 ((w64 (2 * s2.2)) + 1)))) (rv_add (a := (w64 (2 * s2.2))) (b := 1) rfl rfl) (sa (I (w64 ((w64 (2 * s2.2)) + 1))) rfl (w_end (q_then (c_seq (c_seq ?_))))))))))
  obtain ⟨o6, hj, h'⟩ := bind_some h
  clear h
  refine c_cut (fun e a w => e = .normal ∧ ∃ (ρ : Nat → Value) (σ : St), a = fr 48 (updL ρ [(0, (.iface 132 (pt Bn Bo))), (1, (I Cb)), (2, (I Aw)), (7, (I s2.2)), (8, (I (w64 ((w64 (2 * s2.2)) + 1)))), (21, (B o6))]) ∧ w = σ.w ∧ Hp S0 σ0 σ [Ch.own 0 0 (Sl a4 s2.1 c5) s2.1, Ch.bx Bm Bn Bo [(Sl a4 s2.1 c5)] Bp Bq]) ?_ ?_
  ·clear h'
   rename _ = some o6 => h
   refine rg (sm (I (w64 ((w64 (2 * s2.2)) + 1))) rfl (sm (I Aw) rfl (st (v := (B (decide (Aw ≤ (w64 ((w64 (2 * s2.2)) + 1)))))) (rv_geq (a := (w64 ((w64 (2 * s2.2)) + 1))) (b := Aw) rfl rfl) (sm (B (decide (Aw ≤ (w64 ((w64 (2 * s2.2)) + 1))))) rfl ?_))))
   rcases Bool.eq_false_or_eq_true (decide (Aw ≤ (w64 ((w64 (2 * s2.2)) + 1)))) with hb7 | hb7
   ·replace h := bif_t hb7 h
    refine st_skip (congrArg some hb7) (st_skip (congrArg some hb7) (st (v := (B true)) (rv_pick_t (congrArg B hb7) rfl) (w_end ?_)))
    obtain rfl := sj h
    exact ⟨rfl, _, σ3, fr_join ⟨rfl, rfl, rfl, rfl, rfl, rfl, trivial⟩, rfl, H.sel' [1, 0] rfl rfl⟩
   ·replace h := bif_f hb7 h
    refine st_g (v := (I (w64 ((w64 (2 * s2.2)) + 1)))) (congrArg some hb7) (rv_move rfl) (st_g (v := (B (decide ((w64 ((w64 (2 * s2.2)) + 1)) < 0)))) (congrArg some hb7) (rv_lss (a := (w64 ((w64 (2 * s2.2)) + 1))) (b := 0) rfl rfl) (st (v := (B (decide ((w64 ((w64 (2 * s2.2)) + 1)) < 0)))) (rv_pick_f (congrArg B hb7) rfl) (w_end ?_)))
    obtain rfl := sj h
    exact ⟨rfl, _, σ3, fr_join ⟨rfl, rfl, rfl, rfl, rfl, rfl, trivial⟩, rfl, H.sel' [1, 0] rfl rfl⟩
  ·clear hj
   have h := h'
   clear h' H
   rintro e a w ⟨rfl, ρ, σ8, rfl, rfl, H⟩
   refine q_then ?_
   refine cd_cond o6 rfl (fun hb9 => ?_) (fun hb9 => ?_)
   ·replace h := bif_t hb9 h
    refine c_exit (q_then_x ?_)
    refine q_blk_x (by decide) ?_
    refine q_then_x (q_blk_hit ?_)
    obtain rfl := sj h
    obtain rfl := hres _ rfl
    exact ⟨rfl, _, σ8, a4, c5, fr_join ⟨rfl, rfl, rfl, trivial⟩, rfl, H.sel' [1, 0] rfl rfl⟩
   ·replace h := bif_f hb9 h
    refine c_skip (q_then (c_seq (rg (sm (I (w64 ((w64 (2 * s2.2)) + 1))) rfl (sa (I (w64 ((w64 (2 * s2.2)) + 1))) rfl (w_end (q_then (c_seq (c_seq (rg (sm (I (w64 ((w64 (2 * s2.2)) + 1))) rfl ?_)))))))))))
    refine st (v := (I (w64 ((w64 ((w64 (2 * s2.2)) + 1)) + 1)))) (rv_add (a := (w64 ((w64 (2 * s2.2)) + 1))) (b := 1) rfl rfl) (sa (I (w64 ((w64 ((w64 (2 * s2.2)) + 1)) + 1))) rfl (w_end (q_then (c_seq ?_))))
    obtain ⟨o10, hj, h'⟩ := bind_some h
    clear h
    refine c_cut (fun e a w => e = .normal ∧ ∃ (ρ : Nat → Value) (σ : St), a = fr 48 (updL ρ [(0, (.iface 132 (pt Bn Bo))), (1, (I Cb)), (2, (I Aw)), (7, (I s2.2)), (9, (I (w64 ((w64 (2 * s2.2)) + 1)))), (10, (I (w64 ((w64 ((w64 (2 * s2.2)) + 1)) + 1)))), (33, (B o10))]) ∧ w = σ.w ∧ Hp S0 σ0 σ [Ch.own 0 0 (Sl a4 s2.1 c5) s2.1, Ch.bx Bm Bn Bo [(Sl a4 s2.1 c5)] Bp Bq]) ?_ ?_
    ·clear h'
     rename _ = some o10 => h
     refine rg (sm (I (w64 ((w64 ((w64 (2 * s2.2)) + 1)) + 1))) rfl (sm (I Aw) rfl (st (v := (B (decide ((w64 ((w64 ((w64 (2 * s2.2)) + 1)) + 1)) < Aw)))) (rv_lss (a := (w64 ((w64 ((w64 (2 * s2.2)) + 1)) + 1))) (b := Aw) rfl rfl) (sm (B (decide ((w64 ((w64 ((w64 (2 * s2.2)) + 1)) + 1)) < Aw))) rfl ?_))))
     rcases Bool.eq_false_or_eq_true (decide ((w64 ((w64 ((w64 (2 * s2.2)) + 1)) + 1)) < Aw)) with hb11 | hb11
     ·replace h := bif_t hb11 h
      refine st_g (v := (.iface 132 (pt Bn Bo))) (congrArg some hb11) (rv_move rfl) (st_g (v := (I (w64 ((w64 ((w64 (2 * s2.2)) + 1)) + 1)))) (congrArg some hb11) (rv_move rfl) (st_g (v := (I (w64 ((w64 (2 * s2.2)) + 1)))) (congrArg some hb11) (rv_move rfl) ?_))
      revert h; refine br fun r12 hx13 h => ?_
      have hc14 := c_impl_hitHeap_Less (Bk := a4) (Bl := c5) hx13
      have hle := Nat.le_trans hn0 H.size
      refine st_call (cx_lend (Loan.lend Loan.nil) hc14 (ent_iv hc14.fn (by kernel_rfl) Tryz.underlying132 Tryz.underlying105 rfl rfl (H.cell (u := (Sl a4 s2.1 c5)) (o' := Bo) 1 0 rfl rfl rfl) rfl) (show Hp S0 σ0 _ ([Ch.own 0 0 (Sl a4 s2.1 c5) s2.1] ++ ([] ++ [Ch.bx Bm Bn Bo [(Sl a4 s2.1 c5)] Bp Bq])) from (H.sel' [0, 1] rfl rfl)) (by rintro _ _ _ ⟨rfl, rfl⟩; exact trivial)) (wanted_yes rfl (by exact (congrArg some hb11))) ?_
      rintro _ σ15 ⟨_, ⟨rfl, rfl⟩, H, -, -⟩
      replace H : Hp _ _ _ [_, _] := H
      clear hle
      replace H : Hp _ _ _ [_, _] := H
      refine st (v := (B r12)) (rv_pick_t (congrArg B hb11) rfl) (w_end ?_)
      obtain rfl := sj h
      exact ⟨rfl, _, σ15, fr_join ⟨rfl, rfl, rfl, rfl, rfl, rfl, rfl, trivial⟩, rfl, H.sel' [0, 1] rfl rfl⟩
     ·replace h := bif_f hb11 h
      refine st_skip (congrArg some hb11) (st_skip (congrArg some hb11) (st_skip (congrArg some hb11) (st_skip (congrArg some hb11) (st (v := (B false)) (rv_pick_f (congrArg B hb11) rfl) (w_end ?_)))))
      obtain rfl := sj h
      exact ⟨rfl, _, σ8, fr_join ⟨rfl, rfl, rfl, rfl, rfl, rfl, rfl, trivial⟩, rfl, H.sel' [0, 1] rfl rfl⟩
    ·clear hj
     have h := h'
     clear h' H
     rintro e a w ⟨rfl, ρ, σ16, rfl, rfl, H⟩
     refine q_then ?_
     obtain ⟨o17, hj, h'⟩ := bind_some h
     clear h
     refine c_cut (fun e a w => e = .normal ∧ ∃ (ρ : Nat → Value) (σ : St), a = fr 48 (updL ρ [(0, (.iface 132 (pt Bn Bo))), (1, (I Cb)), (2, (I Aw)), (7, (I s2.2)), (9, (I o17))]) ∧ w = σ.w ∧ Hp S0 σ0 σ [Ch.own 0 0 (Sl a4 s2.1 c5) s2.1, Ch.bx Bm Bn Bo [(Sl a4 s2.1 c5)] Bp Bq]) ?_ ?_
     ·clear h'
      rename _ = some o17 => h
      refine cd_cond o10 rfl (fun hb18 => ?_) (fun hb18 => ?_)
      ·replace h := bif_t hb18 h
       refine rg (sm (I (w64 ((w64 ((w64 (2 * s2.2)) + 1)) + 1))) rfl (sa (I (w64 ((w64 ((w64 (2 * s2.2)) + 1)) + 1))) rfl (w_end ?_)))
       obtain rfl := sj h
       exact ⟨rfl, _, σ16, fr_join ⟨rfl, rfl, rfl, rfl, rfl, trivial⟩, rfl, H.sel' [0, 1] rfl rfl⟩
      ·replace h := bif_f hb18 h
       refine c_skip ?_
       obtain rfl := sj h
       exact ⟨rfl, _, σ16, fr_join ⟨rfl, rfl, rfl, rfl, rfl, trivial⟩, rfl, H.sel' [0, 1] rfl rfl⟩
     ·clear hj
      have h := h'
      clear h' H
      rintro e a w ⟨rfl, ρ, σ19, rfl, rfl, H⟩
      refine q_then (c_seq (c_seq (rg (sm (.iface 132 (pt Bn Bo)) rfl (sm (I o17) rfl (sm (I s2.2) rfl ?_))))))
      revert h; refine br fun r20 hx21 h => ?_
      have hc22 := c_impl_hitHeap_Less (Bk := a4) (Bl := c5) hx21
      have hle := Nat.le_trans hn0 H.size
      refine st_call (cx_lend (Loan.lend Loan.nil) hc22 (ent_iv hc22.fn (by kernel_rfl) Tryz.underlying132 Tryz.underlying105 rfl rfl (H.cell (u := (Sl a4 s2.1 c5)) (o' := Bo) 1 0 rfl rfl rfl) rfl) (show Hp S0 σ0 _ ([Ch.own 0 0 (Sl a4 s2.1 c5) s2.1] ++ ([] ++ [Ch.bx Bm Bn Bo [(Sl a4 s2.1 c5)] Bp Bq])) from (H.sel' [0, 1] rfl rfl)) (by rintro _ _ _ ⟨rfl, rfl⟩; exact trivial)) wn ?_
      rintro _ σ23 ⟨_, ⟨rfl, rfl⟩, H, -, -⟩
      replace H : Hp _ _ _ [_, _] := H
      clear hle
      replace H : Hp _ _ _ [_, _] := H
      refine st (v := (B (!r20))) (rv_not rfl) (w_end (q_then ?_))
      refine cd_cond (!r20) rfl (fun hb24 => ?_) (fun hb24 => ?_)
      ·replace h := bif_t hb24 h
       refine c_exit (q_then_x ?_)
       refine q_blk_x (by decide) ?_
       refine q_then_x (q_blk_hit ?_)
       obtain rfl := sj h
       obtain rfl := hres _ rfl
       exact ⟨rfl, _, σ23, a4, c5, fr_join ⟨rfl, rfl, rfl, trivial⟩, rfl, H.sel' [1, 0] rfl rfl⟩
      ·replace h := bif_f hb24 h
       refine c_skip (q_then (c_seq (rg (sm (.iface 132 (pt Bn Bo)) rfl (sm (I s2.2) rfl (sm (I o17) rfl ?_))))))
       revert h; refine br fun r25 hx26 h => ?_
       have hc27 := c_impl_hitHeap_Swap (Bk := a4) (Bl := c5) hx26
       refine st_call (cx_call hc27 (ent_iv hc27.fn (by kernel_rfl) Tryz.underlying132 Tryz.underlying105 rfl rfl (H.cell (u := (Sl a4 s2.1 c5)) (o' := Bo) 1 0 rfl rfl rfl) rfl) hn0 (H.sel' [0, 1] rfl rfl : Hp S0 σ0 _ ([_] ++ _))) wn ?_
       rintro _ σ29 ⟨_, ⟨rfl, rfl, hn28⟩, H, -⟩
       replace H : Hp _ _ _ [_, _] := H
       have hsl : (Sl a4 s2.1 c5) = (Sl a4 r25 c5) := sl_len hn28.symm
       try rw [hsl]
       try rw [hsl] at H
       clear hsl
       refine w_end (q_then (rg (sm (I o17) rfl (sa (I o17) rfl (w_end (q_blk (q_then ?_)))))))
       obtain rfl := sj h
       exact ⟨_, rfl, _, σ29, a4, c5, fr_join ⟨rfl, rfl, rfl, rfl, trivial⟩, rfl, H.sel' [1, 0] rfl rfl⟩
 ·clear hj
  have h := h'
  clear h' H
  rintro e a w ⟨rfl, ρ, σ30, a31, c32, rfl, rfl, H⟩
  refine q_then (c_seq (rg (sm (I o1.2) rfl (sm (I Cb) rfl (st (v := (B (decide (Cb < o1.2)))) (rv_gtr (a := o1.2) (b := Cb) rfl rfl) (sa (B (decide (Cb < o1.2))) rfl (w_end (q_then (c_ret ?_)))))))))
  obtain rfl := sj h
  exact fin_ret (v := (B (decide (Cb < o1.2)))) (results_ok Tryz.results132 (res_tmp (v := (B (decide (Cb < o1.2)))) rfl res_nil) rfl) ⟨a31, c32, rfl, rfl⟩ (H.sel' [0, 1] rfl rfl)

theorem c_impl_hitHeap_Pop {Bj : List (Int × Int)} {Bk : Option Addr} {Bl : Nat} {Bm Bn Bo : Nat} {Bp Bq : List Value} {r : ((Int) × (Int)) × (List (Int × Int))} (h : M.impl_hitHeap_Pop Bj = some r) :
    Cal2 Tryz.prog 184 [(pt Bn Bo)] [Ch.bx Bm Bn Bo [(Sl Bk Bj Bl)] Bp Bq, Ch.own 0 0 (Sl Bk Bj Bl) Bj] (fun n0 v L => ∃ (az1 : Option Addr), ∃ (cz2 : Nat), v = (.iface 37 (.agg #[(I r.1.1), (I r.1.2)])) ∧ L = [Ch.bx Bm Bn Bo [(Sl az1 r.2 cz2)] Bp Bq, Ch.own 0 0 (Sl az1 r.2 cz2) r.2]) := by
 refine cal2 (n := 25) Tryz.func184 rfl rfl rfl rfl ?_
 intro S0 σ0 n0 hn0 H
 unfold M.impl_hitHeap_Pop at h
 refine c_seq (rg (sa (.nilIface) rfl (w_end (q_then (c_seq (rg (sm (pt Bn Bo) rfl (st (v := (pt Bn Bo)) (rv_nilCheck rfl) ?_))))))))
 have hc1 := H.cell (u := (Sl Bk Bj Bl)) (o' := Bo) 0 0 rfl rfl rfl
 refine st (v := (Sl Bk Bj Bl)) (rv_load1 Tryz.underlying105 rfl rfl hc1) (st (v := (I (Bj.length : Int))) (rv_len Tryz.underlying105 rfl) (st (v := (I (w64 ((Bj.length : Int) - 1)))) (rv_sub (a := (Bj.length : Int)) (b := 1) rfl rfl) (sa (I (w64 ((Bj.length : Int) - 1))) rfl (w_end (q_then (c_seq (rg (sm (pt Bn Bo) rfl (st (v := (pt Bn Bo)) (rv_nilCheck rfl) ?_)))))))))
 have hc2 := H.cell (u := (Sl Bk Bj Bl)) (o' := Bo) 0 0 rfl rfl rfl
 refine st (v := (Sl Bk Bj Bl)) (rv_load1 Tryz.underlying105 rfl rfl hc2) (sm (I (w64 ((Bj.length : Int) - 1))) rfl ?_)
 revert h; refine br fun x3 hx4 h => ?_
 obtain ⟨b6, o7, hi5, -⟩ := (H.own 1 rfl).ix hx4
 refine st (v := (pt b6 o7)) (rv_ix Tryz.underlying105 ti37 rfl rfl hi5) ?_
 obtain ⟨_, ⟨_, _, rfl, rfl, rfl⟩, hl8, hc9⟩ := ((H.own 1 rfl).at hx4 hi5).cells
 refine st (v := (.agg #[(I x3.1), (I x3.2)])) (rv_load Tryz.underlying37 rfl ti37 rfl hl8 hc9) (st_ex (ex_alloc (cs := [(I 0), (I 0)]) H hn0 ti37 rfl) wn ?_)
 rintro _ σ11 ⟨b10, rfl, H, -⟩
 refine st_exS (ex_store_box (k := 0) (cs := [(I 0), (I 0)]) (vs := [(I x3.1), (I x3.2)]) (cs' := [(I x3.1), (I x3.2)]) H (i := 0) rfl ti37 rfl rfl rfl rfl rfl (Nat.le_of_ble_eq_true rfl) (by simp [plain]) rfl) wn ?_
 rintro σ12 ⟨H, -⟩
 refine w_end (q_then (c_seq (rg (sm (pt Bn Bo) rfl (sm (pt Bn Bo) rfl (st (v := (pt Bn Bo)) (rv_nilCheck rfl) ?_))))))
 have hc13 := H.cell (u := (Sl Bk Bj Bl)) (o' := Bo) 1 0 rfl rfl rfl
 refine st (v := (Sl Bk Bj Bl)) (rv_load1 Tryz.underlying105 rfl rfl hc13) (sm (I (w64 ((Bj.length : Int) - 1))) rfl ?_)
 revert h; refine br fun xs14 hx15 h => ?_
 obtain ⟨a16, c17, hs18, -⟩ := (H.own 2 rfl).slice hx15
 refine st (v := (Sl a16 xs14 c17)) (rv_slice_h Tryz.underlying105 ti37 hs18 rfl rfl) (st (v := (pt Bn Bo)) (rv_nilCheck rfl) ?_)
 have hv20 := (H.own 2 rfl).view hx15 hs18
 replace H := (H.front (i := 2) rfl).turn (d := Ch.own 0 0 (Sl a16 xs14 c17) xs14) (fun _ => hv20.1) hv20.2; clear hv20
 refine st_exS (ex_store_box (k := 0) (cs := [(Sl Bk Bj Bl)]) (vs := [(Sl a16 xs14 c17)]) (cs' := [(Sl a16 xs14 c17)]) H (i := 2) rfl ti105 rfl rfl rfl rfl rfl (Nat.le_of_ble_eq_true rfl) (by simp [plain]) rfl) wn ?_
 rintro σ21 ⟨H, -⟩
 refine w_end (q_then (c_seq (rg ?_)))
 have hc22 := H.cells 2 rfl
 refine st (v := (.agg #[(I x3.1), (I x3.2)])) (rv_load (cs := [(I x3.1), (I x3.2)]) Tryz.underlying37 rfl ti37 rfl rfl hc22) (st (v := (.iface 37 (.agg #[(I x3.1), (I x3.2)]))) (rv_makeInterface Tryz.underlying37 rfl rfl) (sa (.iface 37 (.agg #[(I x3.1), (I x3.2)])) rfl (w_end (q_then (c_ret ?_)))))
 obtain rfl := sj h
 exact fin_ret (v := (.iface 37 (.agg #[(I x3.1), (I x3.2)]))) (results_ok Tryz.results184 (res_tmp (v := (.iface 37 (.agg #[(I x3.1), (I x3.2)]))) rfl res_nil) rfl) ⟨a16, c17, rfl, rfl⟩ (H.sel' [0, 1] rfl rfl)

theorem c_container_heap_Pop__impl_hitHeap {Bj : List (Int × Int)} {Bk : Option Addr} {Bl : Nat} {Bm Bn Bo : Nat} {Bp Bq : List Value} {r : ((Int) × (Int)) × (List (Int × Int))} (h : M.container_heap_Pop__impl_hitHeap Bj = some r) :
    Cal2 Tryz.prog 122 [(.iface 132 (pt Bn Bo))] [Ch.bx Bm Bn Bo [(Sl Bk Bj Bl)] Bp Bq, Ch.own 0 0 (Sl Bk Bj Bl) Bj] (fun n0 v L => ∃ (az1 : Option Addr), ∃ (cz2 : Nat), v = (.iface 37 (.agg #[(I r.1.1), (I r.1.2)])) ∧ L = [Ch.bx Bm Bn Bo [(Sl az1 r.2 cz2)] Bp Bq, Ch.own 0 0 (Sl az1 r.2 cz2) r.2]) := by
 refine cal2 (n := 15) Tryz.func122 rfl rfl rfl rfl ?_
 intro S0 σ0 n0 hn0 H
 unfold M.container_heap_Pop__impl_hitHeap at h
 refine c_seq (rg (sa (.nilIface) rfl (w_end (q_then (c_seq (rg (sm (.iface 132 (pt Bn Bo)) rfl ?_)))))))
 revert h; refine br fun r1 hx2 h => ?_
 have hc3 := c_impl_hitHeap_Len (Bk := Bk) (Bl := Bl) hx2
 have hle := Nat.le_trans hn0 H.size
 refine st_call (cx_lend (Loan.lend Loan.nil) hc3 (ent_iv hc3.fn (by kernel_rfl) Tryz.underlying132 Tryz.underlying105 rfl rfl (H.cell (u := (Sl Bk Bj Bl)) (o' := Bo) 0 0 rfl rfl rfl) rfl) (show Hp S0 σ0 _ ([Ch.own 0 0 (Sl Bk Bj Bl) Bj] ++ ([] ++ [Ch.bx Bm Bn Bo [(Sl Bk Bj Bl)] Bp Bq])) from (H.sel' [1, 0] rfl rfl)) (by rintro _ _ _ ⟨rfl, rfl⟩; exact trivial)) wn ?_
 rintro _ σ4 ⟨_, ⟨rfl, rfl⟩, H, -, -⟩
 replace H : Hp _ _ _ [_, _] := H
 clear hle
 replace H : Hp _ _ _ [_, _] := H
 refine st (v := (I (w64 (r1 - 1)))) (rv_sub (a := r1) (b := 1) rfl rfl) (sa (I (w64 (r1 - 1))) rfl (w_end (q_then (c_seq (rg (sm (.iface 132 (pt Bn Bo)) rfl (sm (I (w64 (r1 - 1))) rfl ?_)))))))
 revert h; refine br fun r5 hx6 h => ?_
 have hc7 := c_impl_hitHeap_Swap (Bk := Bk) (Bl := Bl) hx6
 refine st_call (cx_call hc7 (ent_iv hc7.fn (by kernel_rfl) Tryz.underlying132 Tryz.underlying105 rfl rfl (H.cell (u := (Sl Bk Bj Bl)) (o' := Bo) 1 0 rfl rfl rfl) rfl) hn0 (H.sel' [0, 1] rfl rfl : Hp S0 σ0 _ ([_] ++ _))) wn ?_
 rintro _ σ9 ⟨_, ⟨rfl, rfl, hn8⟩, H, -⟩
 replace H : Hp _ _ _ [_, _] := H
 have hsl : (Sl Bk Bj Bl) = (Sl Bk r5 Bl) := sl_len hn8.symm
 try rw [hsl]
 try rw [hsl] at H
 clear hsl
 refine w_end (q_then (c_seq (rg (sm (.iface 132 (pt Bn Bo)) rfl (sm (I (w64 (r1 - 1))) rfl ?_)))))
 revert h; refine br fun r10 hx11 h => ?_
 have hc12 := c_container_heap_down__impl_hitHeap (Bm := Bm) (Bn := Bn) (Bo := Bo) (Bp := Bp) (Bq := Bq) (Bk := Bk) (Bl := Bl) hx11
 refine st_call (cx_call hc12 (ent_f hc12.fn rfl) hn0 (H.sel' [1, 0] rfl rfl : Hp S0 σ0 _ ([_, _] ++ _))) wn ?_
 rintro _ σ15 ⟨_, ⟨a13, c14, rfl, rfl⟩, H, -⟩
 replace H : Hp _ _ _ [_, _] := H
 refine w_end (q_then (c_seq (rg (sm (.iface 132 (pt Bn Bo)) rfl ?_))))
 revert h; refine br fun r16 hx17 h => ?_
 have hc18 := c_impl_hitHeap_Pop (Bm := Bm) (Bn := Bn) (Bo := Bo) (Bp := Bp) (Bq := Bq) (Bk := a13) (Bl := c14) hx17
 refine st_call (cx_call hc18 (ent_ip hc18.fn (by kernel_rfl) Tryz.underlying132 rfl rfl) hn0 (H.sel' [0, 1] rfl rfl : Hp S0 σ0 _ ([_, _] ++ _))) wn ?_
 rintro _ σ21 ⟨_, ⟨a19, c20, rfl, rfl⟩, H, -⟩
 replace H : Hp _ _ _ [_, _] := H
 refine sa (.iface 37 (.agg #[(I r16.1.1), (I r16.1.2)])) rfl (w_end (q_then (c_ret ?_)))
 obtain rfl := sj h
 exact fin_ret (v := (.iface 37 (.agg #[(I r16.1.1), (I r16.1.2)]))) (results_ok Tryz.results122 (res_tmp (v := (.iface 37 (.agg #[(I r16.1.1), (I r16.1.2)]))) rfl res_nil) rfl) ⟨a19, c20, rfl, rfl⟩ (H.sel' [0, 1] rfl rfl)

theorem c_impl_nearestHits_offer {Ax : Int × (List (Int × Int))} {Cc : Int × Int} {Cd : Option Addr} {Ce : Nat} {Cf Cg Ci : Nat} {Cj Ck : List Value} {r : (Int × (List (Int × Int)))} (h : M.impl_nearestHits_offer Ax Cc = some r) :
    Cal2 Tryz.prog 97 [(pt Cg Ci), (.agg #[(I Cc.1), (I Cc.2)])] [Ch.bx Cf Cg Ci [(I Ax.1), (Sl Cd Ax.2 Ce)] Cj Ck, Ch.own 0 0 (Sl Cd Ax.2 Ce) Ax.2] (fun n0 v L => ∃ (az1 : Option Addr), ∃ (cz2 : Nat), v = (.tuple #[]) ∧ L = [Ch.bx Cf Cg Ci [(I r.1), (Sl az1 r.2 cz2)] Cj Ck, Ch.own 0 0 (Sl az1 r.2 cz2) r.2]) := by
 refine cal2 (n := 26) Tryz.func97 rfl rfl rfl rfl ?_
 intro S0 σ0 n0 hn0 H
 unfold M.impl_nearestHits_offer at h
 refine c_seq (rg (st_ex (ex_box (cs := [(I Cc.1), (I Cc.2)]) H hn0 rfl rfl) wn ?_))
 rintro _ σ2 ⟨b1, rfl, H, -⟩
 refine w_end (q_then (c_seq ?_))
 refine rgP (σ := σ2) 6 (by kernel_rfl) (by kernel_rfl) (by kernel_rfl) ?_
 refine sq (v := (pt Cg Ci)) (rv_move rfl) (sq (v := (pt Cg Ci)) (rv_nilCheck rfl) (sq (v := (pt Cg (Ci + 1))) (rv_fieldAddr (off := 1) (ft := 105) Tryz.underlying107 rfl ti105 rfl rfl) (sq (v := (.iface 132 (pt Cg (Ci + 1)))) (rv_makeInterface Tryz.underlying132 rfl rfl) ?_)))
 have hc3 := H.cells 0 rfl
 refine sq (v := (.agg #[(I Cc.1), (I Cc.2)])) (rv_load (cs := [(I Cc.1), (I Cc.2)]) Tryz.underlying37 rfl ti37 rfl rfl hc3) (sq (v := (.iface 37 (.agg #[(I Cc.1), (I Cc.2)]))) (rv_makeInterface Tryz.underlying37 rfl rfl) (sq_end ?_))
 intro σ4 hm5
 replace H := H.grow (hm5.mono fun _ h => h); clear hm5
 replace H := Hp.focus (c1 := [(I Ax.1)]) (c2 := [(Sl Cd Ax.2 Ce)]) (c3 := []) (o' := (Ci + 1)) H 1 rfl rfl
 revert h; refine br fun r6 hx7 h => ?_
 have hc8 := c_container_heap_Push__impl_hitHeap__impl_Hit (Bm := Cf) (Bn := Cg) (Bo := (Ci + 1)) (Bp := (Cj ++ [(I Ax.1)])) (Bq := ([] ++ Ck)) (Bk := Cd) (Bl := Ce) hx7
 refine st_call (cx_call hc8 (ent_f hc8.fn rfl) hn0 (H.sel' [0, 2, 1] rfl rfl : Hp S0 σ0 _ ([_, _] ++ _))) wn ?_
 rintro _ σ11 ⟨_, ⟨a9, c10, rfl, rfl⟩, H, -⟩
 replace H : Hp _ _ _ [_, _, _] := H
 replace H : Hp S0 σ0 σ11 [Ch.bx Cf Cg Ci [(I Ax.1), (Sl a9 r6 c10)] Cj Ck, Ch.own 0 0 (Sl a9 r6 c10) r6, Ch.bx n0 b1 0 [(I Cc.1), (I Cc.2)] [] []] := Hp.unfocus (o := Ci) (c1 := [(I Ax.1)]) (c2 := [(Sl a9 r6 c10)]) (c3 := []) (pre := Cj) (suf := Ck) H 0 rfl rfl
 refine w_end (q_then (c_seq ?_))
 refine rgP (σ := σ11) 9 (by kernel_rfl) (by kernel_rfl) (by kernel_rfl) ?_
 refine sq (v := (pt Cg Ci)) (rv_move rfl) (sq (v := (pt Cg Ci)) (rv_nilCheck rfl) (sq (v := (pt Cg (Ci + 1))) (rv_fieldAddr (off := 1) (ft := 105) Tryz.underlying107 rfl ti105 rfl rfl) ?_))
 have hc12 := H.cell (u := (Sl a9 r6 c10)) (o' := (Ci + 1)) 0 1 rfl rfl rfl
 refine sq (v := (Sl a9 r6 c10)) (rv_load1 Tryz.underlying105 rfl rfl hc12) (sq (v := (I (r6.length : Int))) (rv_len Tryz.underlying105 rfl) (sq (v := (pt Cg Ci)) (rv_move rfl) (sq (v := (pt Cg Ci)) (rv_nilCheck rfl) (sq (v := (pt Cg Ci)) (rv_fieldAddr (off := 0) (ft := 3) Tryz.underlying107 rfl ti3 rfl rfl) ?_))))
 have hc13 := H.cell (u := (I Ax.1)) (o' := Ci) 0 0 rfl rfl rfl
 refine sq (v := (I Ax.1)) (rv_load1 Tryz.underlying3 rfl rfl hc13) (sq_end ?_)
 intro σ14 hm15
 replace H := H.grow (hm15.mono fun _ h => h); clear hm15
 refine st (v := (B (decide (Ax.1 < (r6.length : Int))))) (rv_gtr (a := (r6.length : Int)) (b := Ax.1) rfl rfl) (w_end (q_then ?_))
 refine cd_cond (decide (Ax.1 < (r6.length : Int))) rfl (fun hb16 => ?_) (fun hb16 => ?_)
 ·replace h := bif_t hb16 h
  refine rg (sm (pt Cg Ci) rfl (st (v := (pt Cg Ci)) (rv_nilCheck rfl) (st (v := (pt Cg (Ci + 1))) (rv_fieldAddr (off := 1) (ft := 105) Tryz.underlying107 rfl ti105 rfl rfl) (st (v := (.iface 132 (pt Cg (Ci + 1)))) (rv_makeInterface Tryz.underlying132 rfl rfl) ?_))))
  replace H := Hp.focus (c1 := [(I Ax.1)]) (c2 := [(Sl a9 r6 c10)]) (c3 := []) (o' := (Ci + 1)) H 0 rfl rfl
  revert h; refine br fun r17 hx18 h => ?_
  have hc19 := c_container_heap_Pop__impl_hitHeap (Bm := Cf) (Bn := Cg) (Bo := (Ci + 1)) (Bp := (Cj ++ [(I Ax.1)])) (Bq := ([] ++ Ck)) (Bk := a9) (Bl := c10) hx18
  refine st_call (cx_call hc19 (ent_f hc19.fn rfl) hn0 (H.sel' [0, 1, 2] rfl rfl : Hp S0 σ0 _ ([_, _] ++ _))) wn ?_
  rintro _ σ22 ⟨_, ⟨a20, c21, rfl, rfl⟩, H, -⟩
  replace H : Hp _ _ _ [_, _, _] := H
  replace H : Hp S0 σ0 σ22 [Ch.bx Cf Cg Ci [(I Ax.1), (Sl a20 r17.2 c21)] Cj Ck, Ch.own 0 0 (Sl a20 r17.2 c21) r17.2, Ch.bx n0 b1 0 [(I Cc.1), (I Cc.2)] [] []] := Hp.unfocus (o := Ci) (c1 := [(I Ax.1)]) (c2 := [(Sl a20 r17.2 c21)]) (c3 := []) (pre := Cj) (suf := Ck) H 0 rfl rfl
  refine w_end ?_
  obtain rfl := sj h
  exact fin_end (v := (.tuple #[])) (results_ok Tryz.results97 res_nil rfl) ⟨a20, c21, rfl, rfl⟩ (H.sel' [0, 1] rfl rfl)
 ·replace h := bif_f hb16 h
  refine c_skip ?_
  obtain rfl := sj h
  exact fin_end (v := (.tuple #[])) (results_ok Tryz.results97 res_nil rfl) ⟨a9, c10, rfl, rfl⟩ (H.sel' [0, 1] rfl rfl)

theorem c_slices_xorshift_Next {Ae : Int} {Ai Aj Ak : Nat} {Am Ao : List Value} {r : Int × Int} (h : M.slices_xorshift_Next Ae = some r) :
    Cal2 Tryz.prog 128 [(pt Aj Ak)] [Ch.bx Ai Aj Ak [(.int .u64 Ae)] Am Ao] (fun n0 v L => v = (.int .u64 r.1) ∧ L = [Ch.bx Ai Aj Ak [(.int .u64 r.2)] Am Ao]) := by
 refine cal2 (n := 33) Tryz.func128 rfl rfl rfl rfl ?_
 intro S0 σ0 n0 hn0 H
 unfold M.slices_xorshift_Next at h
 refine c_seq (rg (sa (.int .u64 0) rfl (w_end (q_then (c_seq ?_)))))
 refine rgP (σ := σ0) 7 (by kernel_rfl) (by kernel_rfl) (by kernel_rfl) ?_
 refine sq (v := (pt Aj Ak)) (rv_move rfl) (sq (v := (pt Aj Ak)) (rv_nilCheck rfl) ?_)
 have hc1 := H.cell (u := (.int .u64 Ae)) (o' := Ak) 0 0 rfl rfl rfl
 refine sq (v := (.int .u64 Ae)) (rv_load1 Tryz.underlying139 rfl rfl hc1) (sq (v := (pt Aj Ak)) (rv_move rfl) (sq (v := (pt Aj Ak)) (rv_nilCheck rfl) ?_))
 have hc2 := H.cell (u := (.int .u64 Ae)) (o' := Ak) 0 0 rfl rfl rfl
 refine sq (v := (.int .u64 Ae)) (rv_load1 Tryz.underlying139 rfl rfl hc2) ?_
 refine sq (v := (.int .u64 (gshl .u64 Ae 13))) (rvk_shl (k := .u64) (k' := .u64) (a := Ae) (b := 13) rfl rfl (by decide)) ?_
 refine sq_end ?_
 intro σ3 hm4
 replace H := H.grow (hm4.mono fun _ h => h); clear hm4
 refine st (v := (.int .u64 (gxork .u64 Ae (gshl .u64 Ae 13)))) (rvk_xor (k := .u64) (a := Ae) (b := (gshl .u64 Ae 13)) rfl rfl) (st (v := (pt Aj Ak)) (rv_nilCheck rfl) ?_)
 refine st_exS (ex_store_box (k := 0) (cs := [(.int .u64 Ae)]) (vs := [(.int .u64 (gxork .u64 Ae (gshl .u64 Ae 13)))]) (cs' := [(.int .u64 (gxork .u64 Ae (gshl .u64 Ae 13)))]) H (i := 0) rfl ti139 rfl rfl rfl rfl rfl (Nat.le_of_ble_eq_true rfl) (by simp [plain]) rfl) wn ?_
 rintro σ5 ⟨H, -⟩
 refine w_end (q_then (c_seq ?_))
 refine rgP (σ := σ5) 7 (by kernel_rfl) (by kernel_rfl) (by kernel_rfl) ?_
 refine sq (v := (pt Aj Ak)) (rv_move rfl) (sq (v := (pt Aj Ak)) (rv_nilCheck rfl) ?_)
 have hc6 := H.cell (u := (.int .u64 (gxork .u64 Ae (gshl .u64 Ae 13)))) (o' := Ak) 0 0 rfl rfl rfl
 refine sq (v := (.int .u64 (gxork .u64 Ae (gshl .u64 Ae 13)))) (rv_load1 Tryz.underlying139 rfl rfl hc6) (sq (v := (pt Aj Ak)) (rv_move rfl) (sq (v := (pt Aj Ak)) (rv_nilCheck rfl) ?_))
 have hc7 := H.cell (u := (.int .u64 (gxork .u64 Ae (gshl .u64 Ae 13)))) (o' := Ak) 0 0 rfl rfl rfl
 refine sq (v := (.int .u64 (gxork .u64 Ae (gshl .u64 Ae 13)))) (rv_load1 Tryz.underlying139 rfl rfl hc7) ?_
 refine sq (v := (.int .u64 (gshr .u64 (gxork .u64 Ae (gshl .u64 Ae 13)) 7))) (rvk_shr (k := .u64) (k' := .u64) (a := (gxork .u64 Ae (gshl .u64 Ae 13))) (b := 7) rfl rfl (by decide)) ?_
 refine sq_end ?_
 intro σ8 hm9
 replace H := H.grow (hm9.mono fun _ h => h); clear hm9
 refine st (v := (.int .u64 (gxork .u64 (gxork .u64 Ae (gshl .u64 Ae 13)) (gshr .u64 (gxork .u64 Ae (gshl .u64 Ae 13)) 7)))) (rvk_xor (k := .u64) (a := (gxork .u64 Ae (gshl .u64 Ae 13))) (b := (gshr .u64 (gxork .u64 Ae (gshl .u64 Ae 13)) 7)) rfl rfl) (st (v := (pt Aj Ak)) (rv_nilCheck rfl) ?_)
 refine st_exS (ex_store_box (k := 0) (cs := [(.int .u64 (gxork .u64 Ae (gshl .u64 Ae 13)))]) (vs := [(.int .u64 (gxork .u64 (gxork .u64 Ae (gshl .u64 Ae 13)) (gshr .u64 (gxork .u64 Ae (gshl .u64 Ae 13)) 7)))]) (cs' := [(.int .u64 (gxork .u64 (gxork .u64 Ae (gshl .u64 Ae 13)) (gshr .u64 (gxork .u64 Ae (gshl .u64 Ae 13)) 7)))]) H (i := 0) rfl ti139 rfl rfl rfl rfl rfl (Nat.le_of_ble_eq_true rfl) (by simp [plain]) rfl) wn ?_
 rintro σ10 ⟨H, -⟩
 refine w_end (q_then (c_seq ?_))
 refine rgP (σ := σ10) 7 (by kernel_rfl) (by kernel_rfl) (by kernel_rfl) ?_
 refine sq (v := (pt Aj Ak)) (rv_move rfl) (sq (v := (pt Aj Ak)) (rv_nilCheck rfl) ?_)
 have hc11 := H.cell (u := (.int .u64 (gxork .u64 (gxork .u64 Ae (gshl .u64 Ae 13)) (gshr .u64 (gxork .u64 Ae (gshl .u64 Ae 13)) 7)))) (o' := Ak) 0 0 rfl rfl rfl
 refine sq (v := (.int .u64 (gxork .u64 (gxork .u64 Ae (gshl .u64 Ae 13)) (gshr .u64 (gxork .u64 Ae (gshl .u64 Ae 13)) 7)))) (rv_load1 Tryz.underlying139 rfl rfl hc11) (sq (v := (pt Aj Ak)) (rv_move rfl) (sq (v := (pt Aj Ak)) (rv_nilCheck rfl) ?_))
 have hc12 := H.cell (u := (.int .u64 (gxork .u64 (gxork .u64 Ae (gshl .u64 Ae 13)) (gshr .u64 (gxork .u64 Ae (gshl .u64 Ae 13)) 7)))) (o' := Ak) 0 0 rfl rfl rfl
 refine sq (v := (.int .u64 (gxork .u64 (gxork .u64 Ae (gshl .u64 Ae 13)) (gshr .u64 (gxork .u64 Ae (gshl .u64 Ae 13)) 7)))) (rv_load1 Tryz.underlying139 rfl rfl hc12) ?_
 refine sq (v := (.int .u64 (gshl .u64 (gxork .u64 (gxork .u64 Ae (gshl .u64 Ae 13)) (gshr .u64 (gxork .u64 Ae (gshl .u64 Ae 13)) 7)) 17))) (rvk_shl (k := .u64) (k' := .u64) (a := (gxork .u64 (gxork .u64 Ae (gshl .u64 Ae 13)) (gshr .u64 (gxork .u64 Ae (gshl .u64 Ae 13)) 7))) (b := 17) rfl rfl (by decide)) ?_
 refine sq_end ?_
 intro σ13 hm14
 replace H := H.grow (hm14.mono fun _ h => h); clear hm14
 refine st (v := (.int .u64 (gxork .u64 (gxork .u64 (gxork .u64 Ae (gshl .u64 Ae 13)) (gshr .u64 (gxork .u64 Ae (gshl .u64 Ae 13)) 7)) (gshl .u64 (gxork .u64 (gxork .u64 Ae (gshl .u64 Ae 13)) (gshr .u64 (gxork .u64 Ae (gshl .u64 Ae 13)) 7)) 17)))) (rvk_xor (k := .u64) (a := (gxork .u64 (gxork .u64 Ae (gshl .u64 Ae 13)) (gshr .u64 (gxork .u64 Ae (gshl .u64 Ae 13)) 7))) (b := (gshl .u64 (gxork .u64 (gxork .u64 Ae (gshl .u64 Ae 13)) (gshr .u64 (gxork .u64 Ae (gshl .u64 Ae 13)) 7)) 17)) rfl rfl) (st (v := (pt Aj Ak)) (rv_nilCheck rfl) ?_)
 refine st_exS (ex_store_box (k := 0) (cs := [(.int .u64 (gxork .u64 (gxork .u64 Ae (gshl .u64 Ae 13)) (gshr .u64 (gxork .u64 Ae (gshl .u64 Ae 13)) 7)))]) (vs := [(.int .u64 (gxork .u64 (gxork .u64 (gxork .u64 Ae (gshl .u64 Ae 13)) (gshr .u64 (gxork .u64 Ae (gshl .u64 Ae 13)) 7)) (gshl .u64 (gxork .u64 (gxork .u64 Ae (gshl .u64 Ae 13)) (gshr .u64 (gxork .u64 Ae (gshl .u64 Ae 13)) 7)) 17)))]) (cs' := [(.int .u64 (gxork .u64 (gxork .u64 (gxork .u64 Ae (gshl .u64 Ae 13)) (gshr .u64 (gxork .u64 Ae (gshl .u64 Ae 13)) 7)) (gshl .u64 (gxork .u64 (gxork .u64 Ae (gshl .u64 Ae 13)) (gshr .u64 (gxork .u64 Ae (gshl .u64 Ae 13)) 7)) 17)))]) H (i := 0) rfl ti139 rfl rfl rfl rfl rfl (Nat.le_of_ble_eq_true rfl) (by simp [plain]) rfl) wn ?_
 rintro σ15 ⟨H, -⟩
 refine w_end (q_then (c_seq (rg (sm (pt Aj Ak) rfl (st (v := (pt Aj Ak)) (rv_nilCheck rfl) ?_)))))
 have hc16 := H.cell (u := (.int .u64 (gxork .u64 (gxork .u64 (gxork .u64 Ae (gshl .u64 Ae 13)) (gshr .u64 (gxork .u64 Ae (gshl .u64 Ae 13)) 7)) (gshl .u64 (gxork .u64 (gxork .u64 Ae (gshl .u64 Ae 13)) (gshr .u64 (gxork .u64 Ae (gshl .u64 Ae 13)) 7)) 17)))) (o' := Ak) 0 0 rfl rfl rfl
 refine st (v := (.int .u64 (gxork .u64 (gxork .u64 (gxork .u64 Ae (gshl .u64 Ae 13)) (gshr .u64 (gxork .u64 Ae (gshl .u64 Ae 13)) 7)) (gshl .u64 (gxork .u64 (gxork .u64 Ae (gshl .u64 Ae 13)) (gshr .u64 (gxork .u64 Ae (gshl .u64 Ae 13)) 7)) 17)))) (rv_load1 Tryz.underlying139 rfl rfl hc16) (sa (.int .u64 (gxork .u64 (gxork .u64 (gxork .u64 Ae (gshl .u64 Ae 13)) (gshr .u64 (gxork .u64 Ae (gshl .u64 Ae 13)) 7)) (gshl .u64 (gxork .u64 (gxork .u64 Ae (gshl .u64 Ae 13)) (gshr .u64 (gxork .u64 Ae (gshl .u64 Ae 13)) 7)) 17))) rfl (w_end (q_then (c_ret ?_))))
 obtain rfl := sj h
 exact fin_ret (v := (.int .u64 (gxork .u64 (gxork .u64 (gxork .u64 Ae (gshl .u64 Ae 13)) (gshr .u64 (gxork .u64 Ae (gshl .u64 Ae 13)) 7)) (gshl .u64 (gxork .u64 (gxork .u64 Ae (gshl .u64 Ae 13)) (gshr .u64 (gxork .u64 Ae (gshl .u64 Ae 13)) 7)) 17)))) (results_ok Tryz.results128 (res_tmp (v := (.int .u64 (gxork .u64 (gxork .u64 (gxork .u64 Ae (gshl .u64 Ae 13)) (gshr .u64 (gxork .u64 Ae (gshl .u64 Ae 13)) 7)) (gshl .u64 (gxork .u64 (gxork .u64 Ae (gshl .u64 Ae 13)) (gshr .u64 (gxork .u64 Ae (gshl .u64 Ae 13)) 7)) 17)))) rfl res_nil) rfl) ⟨rfl, rfl⟩ (H.sel' [0] rfl rfl)

theorem c_slices_Values_impl_hitHeap_impl_Hit {Cl : List (Int × Int)} {Cm : Option Addr} {Cn : Nat} {r : Unit} (h : M.slices_Values_impl_hitHeap_impl_Hit Cl = some r) :
    Cal2 Tryz.prog 124 [(Sl Cm Cl Cn)] [Ch.ro 0 (Sl Cm Cl Cn) Cl] (fun n0 v L => ∃ (bz1 : Nat), v = (.func (.func 135) #[] #[(pt bz1 0)]) ∧ L = [Ch.bx n0 bz1 0 [(Sl Cm Cl Cn)] [] []]) := by
 refine cal2 (n := 4) Tryz.func124 rfl rfl rfl rfl ?_
 intro S0 σ0 n0 hn0 H
 unfold M.slices_Values_impl_hitHeap_impl_Hit at h
 refine c_seq (rg (st_ex (ex_box (cs := [(Sl Cm Cl Cn)]) H hn0 rfl rfl) wn ?_))
 rintro _ σ2 ⟨b1, rfl, H, -⟩
 refine sa (.nilFunc) rfl (w_end (q_then (c_seq (rg (st (v := (.func (.func 135) #[] #[(pt b1 0)])) (rv_makeFunc (vs := [(pt b1 0)]) rfl) (sa (.func (.func 135) #[] #[(pt b1 0)]) rfl (w_end (q_then (c_ret ?_)))))))))
 obtain rfl := sj h
 exact fin_ret (v := (.func (.func 135) #[] #[(pt b1 0)])) (results_ok Tryz.results124 (res_tmp (v := (.func (.func 135) #[] #[(pt b1 0)])) rfl res_nil) rfl) ⟨b1, rfl, rfl⟩ (H.sel' [0] rfl rfl)

end Go.Vs
