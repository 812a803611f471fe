/- The functions compute what their models say. -/
import Derived.Test.YtdjjikmfkejdiadGreatKWalkToOnceC1
set_option linter.unusedVariables false
set_option linter.unusedSimpArgs false
set_option maxRecDepth 20000
namespace Go.Vs
open Go Go.Proofs
attribute [local irreducible] Code.wp Code.wpIn wpList wpListIn wpQuiet Calls CallsIn

theorem c_spec_someStore {Ae : (List UInt8) × Int} {Ag : Option Addr} {Ah : Nat} {Ai Aj Ak : Nat} {Am Ao : List Value} {r : (List (Int × (List Int) × Int)) × ((List UInt8) × Int)} (h : M.spec_someStore Ae = some r) :
    Cal2 Tryz.prog 28 [(pt Aj Ak)] [Ch.bx Ai Aj Ak [(Sl Ag Ae.1 Ah), (I Ae.2)] Am Ao, Ch.ro 0 (Sl Ag Ae.1 Ah) Ae.1] (fun n0 v L => ∃ (az1 : Option Addr), ∃ (cz2 : Nat), ∃ (az3 : Option Addr), ∃ (cz4 : Nat), v = (Sl az1 r.1 cz2) ∧ L = [Ch.own n0 n0 (Sl az1 r.1 cz2) r.1, Ch.bx Ai Aj Ak [(Sl az3 r.2.1 cz4), (I r.2.2)] Am Ao, Ch.ro 0 (Sl az3 r.2.1 cz4) r.2.1]) := by
 refine cal2 (n := 25) Tryz.func28 rfl rfl rfl rfl ?_
 intro S0 σ0 n0 hn0 H
 unfold M.spec_someStore at h
 refine c_seq (rg (sa (.slice none 0 0) rfl (w_end (q_then (c_seq (rg ?_))))))
 refine st_ex (ex_buildSlice (el := n0) (xs := ([] : List (Int × (List Int) × Int))) (ps := []) (cs := []) H hn0 Tryz.underlying23 ti49 rfl rfl (by kernel_rfl) (.nil) rfl) wn ?_
 rintro _ σ2 ⟨b1, rfl, H, -⟩
 refine sa (Sl (some ⟨b1, 0, none⟩) ([] : List (Int × (List Int) × Int)) 0) rfl (w_end (q_then (c_seq (c_seq (rg (sm (pt Aj Ak) rfl ?_))))))
 refine st_ex (ex_buildSlice (el := n0) (xs := ([4, 6, 8, 3, 1, 0, 20, 12] : List Int)) (ps := [(0, (I 4)), (1, (I 6)), (2, (I 8)), (3, (I 3)), (4, (I 1)), (5, (I 0)), (6, (I 20)), (7, (I 12))]) (cs := [(I 4), (I 6), (I 8), (I 3), (I 1), (I 0), (I 20), (I 12)]) H hn0 Tryz.underlying24 ti3 rfl rfl (by kernel_rfl) (.cons (c := [(I 4)]) rfl (.cons (c := [(I 6)]) rfl (.cons (c := [(I 8)]) rfl (.cons (c := [(I 3)]) rfl (.cons (c := [(I 1)]) rfl (.cons (c := [(I 0)]) rfl (.cons (c := [(I 20)]) rfl (.cons (c := [(I 12)]) rfl (.nil))))))))) rfl) wn ?_
 rintro _ σ4 ⟨b3, rfl, H, -⟩
 obtain ⟨σ5, hw6, H, -⟩ := H.pub 0 rfl (Nat.le_refl _)
 rw [← hw6]; clear hw6
 replace H := H.roLow 0 0 rfl (Nat.zero_le _)
 revert h; refine br fun r7 hx8 h => ?_
 have hc9 := c_spec_reader_one (Ai := Ai) (Aj := Aj) (Ak := Ak) (Am := Am) (Ao := Ao) (Ag := Ag) (Ah := Ah) (Aq := (some ⟨b3, 0, none⟩)) (Ar := 8) hx8
 refine st_call (cx_call hc9 (ent_f hc9.fn rfl) hn0 (H.sel' [3, 4, 0, 0, 1, 2, 4] rfl rfl : Hp S0 σ0 _ ([_, _, _] ++ _))) wn ?_
 rintro _ σ12 ⟨_, ⟨a10, c11, rfl, rfl⟩, H, -⟩
 replace H : Hp _ _ _ [_, _, _, _, _, _] := H
 refine sa (I r7.1) rfl (w_end (q_then ?_))
 obtain ⟨o13, hj, h'⟩ := bind_some h
 clear h
 refine c_cut (fun e a w => e = .normal ∧ ∃ (ρ : Nat → Value) (σ : St) (aj1 : Option Addr) (cj2 : Nat) (aj3 : Option Addr) (cj4 : Nat), a = fr 25 (updL ρ [(0, (pt Aj Ak)), (3, (Sl aj3 o13.2 cj4))]) ∧ w = σ.w ∧ Hp S0 σ0 σ [Ch.bx Ai Aj Ak [(Sl aj1 o13.1.1 cj2), (I o13.1.2)] Am Ao, Ch.ro 0 (Sl aj1 o13.1.1 cj2) o13.1.1, Ch.own n0 n0 (Sl aj3 o13.2 cj4) o13.2]) ?_ ?_
 ·clear h'
  rename _ = some o13 => h
  refine c_blk (wp_loopM _ h (fun s14 a w => ∃ (ρ : Nat → Value) (σ : St) (aj1 : Option Addr) (cj2 : Nat) (aj3 : Option Addr) (cj4 : Nat), a = fr 25 (updL ρ [(0, (pt Aj Ak)), (3, (Sl aj3 s14.2.1 cj4)), (4, (I s14.2.2))]) ∧ w = σ.w ∧ Hp S0 σ0 σ [Ch.bx Ai Aj Ak [(Sl aj1 s14.1.1 cj2), (I s14.1.2)] Am Ao, Ch.ro 0 (Sl aj1 s14.1.1 cj2) s14.1.1, Ch.own n0 n0 (Sl aj3 s14.2.1 cj4) s14.2.1]) ⟨_, σ12, a10, c11, (some ⟨b1, 0, none⟩), 0, fr_join ⟨rfl, rfl, rfl, trivial⟩, rfl, H.sel' [0, 1, 4] rfl rfl⟩ ?_)
  clear h H
  rintro s14 a w o ⟨ρ, σ15, a16, c17, a18, c19, rfl, rfl, H⟩ h hres
  refine c_seq (c_seq (rg (sm (I s14.2.2) rfl (st (v := (B (decide (0 < s14.2.2)))) (rv_gtr (a := s14.2.2) (b := 0) rfl rfl) (w_end (q_then ?_))))))
  refine cd_cond (decide (0 < s14.2.2)) rfl (fun hb20 => ?_) (fun hb20 => ?_)
  ·replace h := bif_t hb20 h
   refine c_skip (q_then (c_seq ?_))
   obtain ⟨o21, hj, h'⟩ := bind_some h
   clear h
   refine c_cut (fun e a w => e = .normal ∧ ∃ (ρ : Nat → Value) (σ : St) (aj1 : Option Addr) (cj2 : Nat) (aj3 : Option Addr) (cj4 : Nat), a = fr 25 (updL ρ [(0, (pt Aj Ak)), (3, (Sl aj3 o21.2 cj4)), (4, (I s14.2.2))]) ∧ w = σ.w ∧ Hp S0 σ0 σ [Ch.bx Ai Aj Ak [(Sl aj1 o21.1.1 cj2), (I o21.1.2)] Am Ao, Ch.ro 0 (Sl aj1 o21.1.1 cj2) o21.1.1, Ch.own n0 n0 (Sl aj3 o21.2 cj4) o21.2]) ?_ ?_
   ·clear h'
    rename _ = some o21 => h
    refine c_blk (c_seq (rg (sm (Sl a18 s14.2.1 c19) rfl (sm (pt Aj Ak) rfl ?_))))
    revert h; refine br fun r22 hx23 h => ?_
    have hc24 := c_spec_someItem (Ai := Ai) (Aj := Aj) (Ak := Ak) (Am := Am) (Ao := Ao) (Ag := a16) (Ah := c17) hx23
    refine st_call (cx_call hc24 (ent_f hc24.fn rfl) hn0 (H.sel' [0, 1, 1, 2] rfl rfl : Hp S0 σ0 _ ([_, _] ++ _))) wn ?_
    rintro _ σ29 ⟨_, ⟨a25, c26, a27, c28, rfl, rfl⟩, H, -⟩
    replace H : Hp _ _ _ [_, _, _, _, _] := H
    obtain ⟨σ30, hw31, H, -⟩ := H.pub 0 rfl (Nat.le_refl _)
    rw [← hw31]; clear hw31
    replace H := H.roLow 0 0 rfl (Nat.zero_le _)
    revert h; refine br fun r32 hx33 h => ?_
    have hc34 := c_spec_PutItem (Au := a18) (Av := c19) (Bh := a25) (Bi := c26) hx33
    have hle := Nat.le_trans hn0 H.size
    refine st_call (cx_lend (Loan.lend (Loan.same Loan.nil)) hc34 (ent_f hc34.fn rfl) (show Hp S0 σ0 _ ([Ch.own n0 n0 (Sl a18 s14.2.1 c19) s14.2.1] ++ ([Ch.ro 0 (Sl a25 r22.1.2.1 c26) r22.1.2.1] ++ [Ch.ro 0 (Sl a25 r22.1.2.1 c26) r22.1.2.1, Ch.ro n0 (Sl a25 r22.1.2.1 c26) r22.1.2.1, Ch.bx Ai Aj Ak [(Sl a27 r22.2.1 c28), (I r22.2.2)] Am Ao, Ch.ro 0 (Sl a27 r22.2.1 c28) r22.2.1, Ch.ro 0 (Sl a16 s14.1.1 c17) s14.1.1])) from (H.sel' [5, 0, 0, 1, 2, 3, 4] rfl rfl)) (by rintro _ _ _ ⟨_, _, rfl, rfl⟩; exact ⟨Ab.own (Nat.le_refl _), trivial⟩)) wn ?_
    rintro _ σ37 ⟨_, ⟨a35, c36, rfl, rfl⟩, H, -, -⟩
    replace H : Hp _ _ _ [_, _, _, _, _, _, _] := H
    replace H := H.ownLow 0 n0 n0 rfl hle hle
    clear hle
    replace H : Hp _ _ _ [_, _, _, _, _, _, _] := H
    refine sm (.tuple #[(Sl a35 r32.1 c36), (B r32.2)]) rfl (st (v := (Sl a35 r32.1 c36)) (rv_extract rfl rfl) (st (v := (B r32.2)) (rv_extract rfl rfl) (sa (Sl a35 r32.1 c36) rfl (sa (B r32.2) rfl (w_end (q_then (c_seq (rg (sm (B r32.2) rfl (w_end (q_then ?_)))))))))))
    refine cd_cond r32.2 rfl (fun hb38 => ?_) (fun hb38 => ?_)
    ·replace h := bif_t hb38 h
     refine rg (sm (Sl a35 r32.1 c36) rfl (sa (Sl a35 r32.1 c36) rfl (w_end (q_blk ?_))))
     obtain rfl := sj h
     exact ⟨rfl, _, σ37, a27, c28, a35, c36, fr_join ⟨rfl, rfl, rfl, trivial⟩, rfl, H.sel' [4, 5, 0] rfl rfl⟩
    ·replace h := bif_f hb38 h
     refine c_skip (q_blk ?_)
     obtain rfl := sj h
     exact ⟨rfl, _, σ37, a27, c28, a18, c19, fr_join ⟨rfl, rfl, rfl, trivial⟩, rfl, H.sel' [4, 5, 1] rfl rfl⟩
   ·clear hj
    have h := h'
    clear h' H
    rintro e a w ⟨rfl, ρ, σ39, a40, c41, a42, c43, rfl, rfl, H⟩
    refine q_then (rg (sm (I s14.2.2) rfl (st (v := (I (w64 (s14.2.2 - 1)))) (rv_sub (a := s14.2.2) (b := 1) rfl rfl) (sa (I (w64 (s14.2.2 - 1))) rfl (w_end (q_then ?_))))))
    obtain rfl := sj h
    exact ⟨_, rfl, _, σ39, a40, c41, a42, c43, fr_join ⟨rfl, rfl, rfl, trivial⟩, rfl, H.sel' [0, 1, 2] rfl rfl⟩
  ·replace h := bif_f hb20 h
   refine c_exit (q_then_x (q_then_x (q_blk_hit ?_)))
   obtain rfl := sj h
   obtain rfl := hres _ rfl
   exact ⟨rfl, _, σ15, a16, c17, a18, c19, fr_join ⟨rfl, rfl, trivial⟩, rfl, H.sel' [0, 1, 2] rfl rfl⟩
 ·clear hj
  have h := h'
  clear h' H
  rintro e a w ⟨rfl, ρ, σ44, a45, c46, a47, c48, rfl, rfl, H⟩
  refine q_then (c_seq (rg (sm (Sl a47 o13.2 c48) rfl (sa (Sl a47 o13.2 c48) rfl (w_end (q_then (c_ret ?_)))))))
  obtain rfl := sj h
  exact fin_ret (v := (Sl a47 o13.2 c48)) (results_ok Tryz.results28 (res_tmp (v := (Sl a47 o13.2 c48)) rfl res_nil) rfl) ⟨a47, c48, a45, c46, rfl, rfl⟩ (H.sel' [2, 0, 1] rfl rfl)

theorem c_spec_anyItem {Ae : (List UInt8) × Int} {Ag : Option Addr} {Ah : Nat} {Ai Aj Ak : Nat} {Am Ao : List Value} {r : (Int × (List Int) × Int) × ((List UInt8) × Int)} (h : M.spec_anyItem Ae = some r) :
    Cal2 Tryz.prog 30 [(pt Aj Ak)] [Ch.bx Ai Aj Ak [(Sl Ag Ae.1 Ah), (I Ae.2)] Am Ao, Ch.ro 0 (Sl Ag Ae.1 Ah) Ae.1] (fun n0 v L => ∃ (az1 : Option Addr), ∃ (cz2 : Nat), ∃ (az3 : Option Addr), ∃ (cz4 : Nat), v = (.agg #[(I r.1.1), (Sl az1 r.1.2.1 cz2), (I r.1.2.2)]) ∧ L = [Ch.own n0 n0 (Sl az1 r.1.2.1 cz2) r.1.2.1, Ch.bx Ai Aj Ak [(Sl az3 r.2.1 cz4), (I r.2.2)] Am Ao, Ch.ro 0 (Sl az3 r.2.1 cz4) r.2.1]) := by
 refine cal2 (n := 26) Tryz.func30 rfl rfl rfl rfl ?_
 intro S0 σ0 n0 hn0 H
 unfold M.spec_anyItem at h
 refine c_seq (rg (st_ex (ex_alloc (cs := [(I 0), (.slice none 0 0), (I 0)]) H hn0 ti49 rfl) wn ?_))
 rintro _ σ2 ⟨b1, rfl, H, -⟩
 refine w_end (q_then (c_seq (rg (sm (pt Aj Ak) rfl ?_))))
 revert h; refine br fun r3 hx4 h => ?_
 have hc5 := c_spec_someItem (Ai := Ai) (Aj := Aj) (Ak := Ak) (Am := Am) (Ao := Ao) (Ag := Ag) (Ah := Ah) hx4
 refine st_call (cx_call hc5 (ent_f hc5.fn rfl) hn0 (H.sel' [1, 2, 0, 2] rfl rfl : Hp S0 σ0 _ ([_, _] ++ _))) wn ?_
 rintro _ σ10 ⟨_, ⟨a6, c7, a8, c9, rfl, rfl⟩, H, -⟩
 replace H : Hp _ _ _ [_, _, _, _, _] := H
 refine st_ex (ex_alloc (cs := [(I 0), (.slice none 0 0), (I 0)]) H hn0 ti49 rfl) wn ?_
 rintro _ σ12 ⟨b11, rfl, H, -⟩
 refine st_exS (ex_store_box (k := 0) (cs := [(I 0), (.slice none 0 0), (I 0)]) (vs := [(I r3.1.1), (Sl a6 r3.1.2.1 c7), (I r3.1.2.2)]) (cs' := [(I r3.1.1), (Sl a6 r3.1.2.1 c7), (I r3.1.2.2)]) H (i := 0) rfl ti49 rfl rfl rfl rfl rfl (Nat.le_of_ble_eq_true rfl) (by simp [plain]) rfl) wn ?_
 rintro σ13 ⟨H, -⟩
 refine w_end (q_then (c_seq (c_seq (rg (sm (pt Aj Ak) rfl ?_)))))
 revert h; refine br fun r14 hx15 h => ?_
 have hc16 := c_spec_reader_pick (Ai := Ai) (Aj := Aj) (Ak := Ak) (Am := Am) (Ao := Ao) (Ag := a8) (Ah := c9) hx15
 refine st_call (cx_call hc16 (ent_f hc16.fn rfl) hn0 (H.sel' [2, 3, 0, 1, 3, 4, 5] rfl rfl : Hp S0 σ0 _ ([_, _] ++ _))) wn ?_
 rintro _ σ19 ⟨_, ⟨a17, c18, rfl, rfl⟩, H, -⟩
 replace H : Hp _ _ _ [_, _, _, _, _, _, _] := H
 refine w_end (q_then ?_)
 obtain ⟨o20, hj, h'⟩ := bind_some h
 clear h
 refine c_cut (fun e a w => e = .normal ∧ ∃ (ρ : Nat → Value) (σ : St) (aj1 : Option Addr) (cj2 : Nat) (aj3 : Option Addr) (cj4 : Nat), a = fr 26 (updL ρ [(0, (pt Aj Ak)), (2, (pt b1 0)), (3, (pt b11 0))]) ∧ w = σ.w ∧ Hp S0 σ0 σ [Ch.bx Ai Aj Ak [(Sl aj1 o20.1.1 cj2), (I o20.1.2)] Am Ao, Ch.ro 0 (Sl aj1 o20.1.1 cj2) o20.1.1, Ch.bx n0 b11 0 [(I o20.2.1), (Sl aj3 o20.2.2.1 cj4), (I o20.2.2.2)] [] [], Ch.own n0 n0 (Sl aj3 o20.2.2.1 cj4) o20.2.2.1, Ch.bx n0 b1 0 [(I 0), (.slice none 0 0), (I 0)] [] []]) ?_ ?_
 ·clear h'
  rename _ = some o20 => h
  refine c_blk (c_seq (rg (st (v := (B (r14.1 == 0))) (rv_eql (a := r14.1) (b := 0) rfl rfl) (sa (B (r14.1 == 0)) rfl (w_end (q_then ?_))))))
  refine cd_cond (r14.1 == 0) rfl (fun hb21 => ?_) (fun hb21 => ?_)
  ·replace h := bif_t hb21 h
   refine rg (sm (pt Aj Ak) rfl ?_)
   refine st_ex (ex_buildSlice (el := n0) (xs := ([0, 99, 100] : List Int)) (ps := [(0, (I 0)), (1, (I 99)), (2, (I 100))]) (cs := [(I 0), (I 99), (I 100)]) H hn0 Tryz.underlying24 ti3 rfl rfl (by kernel_rfl) (.cons (c := [(I 0)]) rfl (.cons (c := [(I 99)]) rfl (.cons (c := [(I 100)]) rfl (.nil)))) rfl) wn ?_
   rintro _ σ23 ⟨b22, rfl, H, -⟩
   replace H : Hp S0 σ0 σ23 [Ch.own n0 n0 (Sl (some ⟨b22, 0, none⟩) ([0, 99, 100] : List Int) 3) ([0, 99, 100] : List Int), Ch.bx Ai Aj Ak [(Sl a17 r14.2.1 c18), (I r14.2.2)] Am Ao, Ch.ro 0 (Sl a17 r14.2.1 c18) r14.2.1, Ch.bx n0 b11 0 [(I r3.1.1), (Sl a6 r3.1.2.1 c7), (I r3.1.2.2)] [] [], Ch.own n0 n0 (Sl a6 r3.1.2.1 c7) r3.1.2.1, Ch.bx n0 b1 0 [(I 0), (.slice none 0 0), (I 0)] [] []] := H.sel' [0, 1, 2, 3, 4, 6] rfl rfl
   obtain ⟨σ24, hw25, H, -⟩ := H.pub 0 rfl (Nat.le_refl _)
   rw [← hw25]; clear hw25
   replace H := H.roLow 0 0 rfl (Nat.zero_le _)
   revert h; refine br fun r26 hx27 h => ?_
   have hc28 := c_spec_reader_one (Ai := Ai) (Aj := Aj) (Ak := Ak) (Am := Am) (Ao := Ao) (Ag := a17) (Ah := c18) (Aq := (some ⟨b22, 0, none⟩)) (Ar := 3) hx27
   refine st_call (cx_call hc28 (ent_f hc28.fn rfl) hn0 (H.sel' [2, 3, 0, 0, 1, 3, 4, 5, 6] rfl rfl : Hp S0 σ0 _ ([_, _, _] ++ _))) wn ?_
   rintro _ σ31 ⟨_, ⟨a29, c30, rfl, rfl⟩, H, -⟩
   replace H : Hp _ _ _ [_, _, _, _, _, _, _, _] := H
   replace H : Hp S0 σ0 σ31 [Ch.bx Ai Aj Ak [(Sl a29 r26.2.1 c30), (I r26.2.2)] Am Ao, Ch.ro 0 (Sl a29 r26.2.1 c30) r26.2.1, Ch.bx n0 b11 0 [(I r3.1.1), (Sl a6 r3.1.2.1 c7), (I r3.1.2.2)] [] [], Ch.own n0 n0 (Sl a6 r3.1.2.1 c7) r3.1.2.1, Ch.bx n0 b1 0 [(I 0), (.slice none 0 0), (I 0)] [] []] := H.sel' [0, 1, 5, 6, 7] rfl rfl
   refine st (v := (pt b11 0)) (rv_fieldAddr (off := 0) (ft := 3) Tryz.underlying49 rfl ti3 rfl rfl) ?_
   refine st_exS (ex_store_box (k := 0) (cs := [(I r3.1.1), (Sl a6 r3.1.2.1 c7), (I r3.1.2.2)]) (vs := [(I r26.1)]) (cs' := [(I r26.1), (Sl a6 r3.1.2.1 c7), (I r3.1.2.2)]) H (i := 2) rfl ti3 rfl rfl rfl rfl rfl (Nat.le_of_ble_eq_true rfl) (by simp [plain]) rfl) wn ?_
   rintro σ32 ⟨H, -⟩
   refine w_end (q_blk ?_)
   obtain rfl := sj h
   exact ⟨rfl, _, σ32, a29, c30, a6, c7, fr_join ⟨rfl, rfl, rfl, trivial⟩, rfl, H.sel' [1, 2, 0, 3, 4] rfl rfl⟩
  ·replace h := bif_f hb21 h
   refine c_seq (rg (st (v := (B (r14.1 == 1))) (rv_eql (a := r14.1) (b := 1) rfl rfl) (sa (B (r14.1 == 1)) rfl (w_end (q_then ?_)))))
   refine cd_cond (r14.1 == 1) rfl (fun hb33 => ?_) (fun hb33 => ?_)
   ·replace h := bif_t hb33 h
    refine rg (sm (pt Aj Ak) rfl ?_)
    revert h; refine br fun r34 hx35 h => ?_
    have hc36 := c_spec_anyVector (Ai := Ai) (Aj := Aj) (Ak := Ak) (Am := Am) (Ao := Ao) (Ag := a17) (Ah := c18) hx35
    refine st_call (cx_call hc36 (ent_f hc36.fn rfl) hn0 (H.sel' [0, 1, 1, 2, 3, 4, 5, 6] rfl rfl : Hp S0 σ0 _ ([_, _] ++ _))) wn ?_
    rintro _ σ41 ⟨_, ⟨a37, c38, a39, c40, rfl, rfl⟩, H, -⟩
    replace H : Hp _ _ _ [_, _, _, _, _, _, _, _, _] := H
    replace H : Hp S0 σ0 σ41 [Ch.own n0 n0 (Sl a37 r34.1 c38) r34.1, Ch.bx Ai Aj Ak [(Sl a39 r34.2.1 c40), (I r34.2.2)] Am Ao, Ch.ro 0 (Sl a39 r34.2.1 c40) r34.2.1, Ch.bx n0 b11 0 [(I r3.1.1), (Sl a6 r3.1.2.1 c7), (I r3.1.2.2)] [] [], Ch.own n0 n0 (Sl a6 r3.1.2.1 c7) r3.1.2.1, Ch.bx n0 b1 0 [(I 0), (.slice none 0 0), (I 0)] [] []] := H.sel' [0, 1, 2, 4, 5, 7] rfl rfl
    refine st (v := (pt b11 1)) (rv_fieldAddr (off := 1) (ft := 24) Tryz.underlying49 rfl ti24 rfl rfl) ?_
    refine st_exS (ex_store_box (k := 1) (cs := [(I r3.1.1), (Sl a6 r3.1.2.1 c7), (I r3.1.2.2)]) (vs := [(Sl a37 r34.1 c38)]) (cs' := [(I r3.1.1), (Sl a37 r34.1 c38), (I r3.1.2.2)]) H (i := 3) rfl ti24 rfl rfl rfl rfl rfl (Nat.le_of_ble_eq_true rfl) (by simp [plain]) rfl) wn ?_
    rintro σ42 ⟨H, -⟩
    refine w_end (q_blk ?_)
    obtain rfl := sj h
    exact ⟨rfl, _, σ42, a39, c40, a37, c38, fr_join ⟨rfl, rfl, rfl, trivial⟩, rfl, H.sel' [2, 3, 0, 1, 5] rfl rfl⟩
   ·replace h := bif_f hb33 h
    refine c_seq (rg (st (v := (B (r14.1 == 2))) (rv_eql (a := r14.1) (b := 2) rfl rfl) (sa (B (r14.1 == 2)) rfl (w_end (q_then ?_)))))
    refine cd_cond (r14.1 == 2) rfl (fun hb43 => ?_) (fun hb43 => ?_)
    ·replace h := bif_t hb43 h
     refine rg (sm (pt Aj Ak) rfl ?_)
     refine st_ex (ex_buildSlice (el := n0) (xs := ([-1, 16] : List Int)) (ps := [(0, (I (-1))), (1, (I 16))]) (cs := [(I (-1)), (I 16)]) H hn0 Tryz.underlying24 ti3 rfl rfl (by kernel_rfl) (.cons (c := [(I (-1))]) rfl (.cons (c := [(I 16)]) rfl (.nil))) rfl) wn ?_
     rintro _ σ45 ⟨b44, rfl, H, -⟩
     replace H : Hp S0 σ0 σ45 [Ch.own n0 n0 (Sl (some ⟨b44, 0, none⟩) ([-1, 16] : List Int) 2) ([-1, 16] : List Int), Ch.bx Ai Aj Ak [(Sl a17 r14.2.1 c18), (I r14.2.2)] Am Ao, Ch.ro 0 (Sl a17 r14.2.1 c18) r14.2.1, Ch.bx n0 b11 0 [(I r3.1.1), (Sl a6 r3.1.2.1 c7), (I r3.1.2.2)] [] [], Ch.own n0 n0 (Sl a6 r3.1.2.1 c7) r3.1.2.1, Ch.bx n0 b1 0 [(I 0), (.slice none 0 0), (I 0)] [] []] := H.sel' [0, 1, 2, 3, 4, 6] rfl rfl
     obtain ⟨σ46, hw47, H, -⟩ := H.pub 0 rfl (Nat.le_refl _)
     rw [← hw47]; clear hw47
     replace H := H.roLow 0 0 rfl (Nat.zero_le _)
     revert h; refine br fun r48 hx49 h => ?_
     have hc50 := c_spec_reader_one (Ai := Ai) (Aj := Aj) (Ak := Ak) (Am := Am) (Ao := Ao) (Ag := a17) (Ah := c18) (Aq := (some ⟨b44, 0, none⟩)) (Ar := 2) hx49
     refine st_call (cx_call hc50 (ent_f hc50.fn rfl) hn0 (H.sel' [2, 3, 0, 0, 1, 3, 4, 5, 6] rfl rfl : Hp S0 σ0 _ ([_, _, _] ++ _))) wn ?_
     rintro _ σ53 ⟨_, ⟨a51, c52, rfl, rfl⟩, H, -⟩
     replace H : Hp _ _ _ [_, _, _, _, _, _, _, _] := H
     replace H : Hp S0 σ0 σ53 [Ch.bx Ai Aj Ak [(Sl a51 r48.2.1 c52), (I r48.2.2)] Am Ao, Ch.ro 0 (Sl a51 r48.2.1 c52) r48.2.1, Ch.bx n0 b11 0 [(I r3.1.1), (Sl a6 r3.1.2.1 c7), (I r3.1.2.2)] [] [], Ch.own n0 n0 (Sl a6 r3.1.2.1 c7) r3.1.2.1, Ch.bx n0 b1 0 [(I 0), (.slice none 0 0), (I 0)] [] []] := H.sel' [0, 1, 5, 6, 7] rfl rfl
     refine st (v := (pt b11 2)) (rv_fieldAddr (off := 2) (ft := 3) Tryz.underlying49 rfl ti3 rfl rfl) ?_
     refine st_exS (ex_store_box (k := 2) (cs := [(I r3.1.1), (Sl a6 r3.1.2.1 c7), (I r3.1.2.2)]) (vs := [(I r48.1)]) (cs' := [(I r3.1.1), (Sl a6 r3.1.2.1 c7), (I r48.1)]) H (i := 2) rfl ti3 rfl rfl rfl rfl rfl (Nat.le_of_ble_eq_true rfl) (by simp [plain]) rfl) wn ?_
     rintro σ54 ⟨H, -⟩
     refine w_end (q_blk ?_)
     obtain rfl := sj h
     exact ⟨rfl, _, σ54, a51, c52, a6, c7, fr_join ⟨rfl, rfl, rfl, trivial⟩, rfl, H.sel' [1, 2, 0, 3, 4] rfl rfl⟩
    ·replace h := bif_f hb43 h
     refine c_skip (q_blk ?_)
     obtain rfl := sj h
     exact ⟨rfl, _, σ19, a17, c18, a6, c7, fr_join ⟨rfl, rfl, rfl, trivial⟩, rfl, H.sel' [0, 1, 2, 3, 5] rfl rfl⟩
 ·clear hj
  have h := h'
  clear h' H
  rintro e a w ⟨rfl, ρ, σ55, a56, c57, a58, c59, rfl, rfl, H⟩
  refine q_then (c_seq (rg ?_))
  have hc60 := H.cells 2 rfl
  refine st (v := (.agg #[(I o20.2.1), (Sl a58 o20.2.2.1 c59), (I o20.2.2.2)])) (rv_load (cs := [(I o20.2.1), (Sl a58 o20.2.2.1 c59), (I o20.2.2.2)]) Tryz.underlying49 rfl ti49 rfl rfl hc60) ?_
  refine st_exS (ex_store_box (k := 0) (cs := [(I 0), (.slice none 0 0), (I 0)]) (vs := [(I o20.2.1), (Sl a58 o20.2.2.1 c59), (I o20.2.2.2)]) (cs' := [(I o20.2.1), (Sl a58 o20.2.2.1 c59), (I o20.2.2.2)]) H (i := 4) rfl ti49 rfl rfl rfl rfl rfl (Nat.le_of_ble_eq_true rfl) (by simp [plain]) rfl) wn ?_
  rintro σ61 ⟨H, -⟩
  refine w_end (q_then (c_ret ?_))
  obtain rfl := sj h
  exact fin_ret (v := (.agg #[(I o20.2.1), (Sl a58 o20.2.2.1 c59), (I o20.2.2.2)])) (results_ok Tryz.results30 (res_cell rfl (run_cellRes (cs := [(I o20.2.1), (Sl a58 o20.2.2.1 c59), (I o20.2.2.2)]) Tryz.underlying49 rfl ti49 rfl (H.cells 0 rfl)) res_nil) rfl) ⟨a58, c59, a56, c57, rfl, rfl⟩ (H.sel' [4, 1, 2] rfl rfl)

theorem c_spec_anyStore {Ae : (List UInt8) × Int} {Ag : Option Addr} {Ah : Nat} {Ai Aj Ak : Nat} {Am Ao : List Value} {r : (List (Int × (List Int) × Int)) × ((List UInt8) × Int)} (h : M.spec_anyStore Ae = some r) :
    Cal2 Tryz.prog 10 [(pt Aj Ak)] [Ch.bx Ai Aj Ak [(Sl Ag Ae.1 Ah), (I Ae.2)] Am Ao, Ch.ro 0 (Sl Ag Ae.1 Ah) Ae.1] (fun n0 v L => ∃ (az1 : Option Addr), ∃ (cz2 : Nat), ∃ (az3 : Option Addr), ∃ (cz4 : Nat), v = (Sl az1 r.1 cz2) ∧ L = [Ch.own n0 n0 (Sl az1 r.1 cz2) r.1, Ch.bx Ai Aj Ak [(Sl az3 r.2.1 cz4), (I r.2.2)] Am Ao, Ch.ro 0 (Sl az3 r.2.1 cz4) r.2.1]) := by
 refine cal2 (n := 30) Tryz.func10 rfl rfl rfl rfl ?_
 intro S0 σ0 n0 hn0 H
 unfold M.spec_anyStore at h
 refine c_seq (rg (sa (.slice none 0 0) rfl (w_end (q_then (c_seq (rg (sm (pt Aj Ak) rfl ?_)))))))
 revert h; refine br fun r1 hx2 h => ?_
 have hc3 := c_spec_someStore (Ai := Ai) (Aj := Aj) (Ak := Ak) (Am := Am) (Ao := Ao) (Ag := Ag) (Ah := Ah) hx2
 refine st_call (cx_call hc3 (ent_f hc3.fn rfl) hn0 (H.sel' [0, 1, 1] rfl rfl : Hp S0 σ0 _ ([_, _] ++ _))) wn ?_
 rintro _ σ8 ⟨_, ⟨a4, c5, a6, c7, rfl, rfl⟩, H, -⟩
 replace H : Hp _ _ _ [_, _, _, _] := H
 refine sa (Sl a4 r1.1 c5) rfl (w_end (q_then (c_seq (c_seq (rg (sm (pt Aj Ak) rfl ?_))))))
 revert h; refine br fun r9 hx10 h => ?_
 have hc11 := c_spec_reader_pick (Ai := Ai) (Aj := Aj) (Ak := Ak) (Am := Am) (Ao := Ao) (Ag := a6) (Ah := c7) hx10
 refine st_call (cx_call hc11 (ent_f hc11.fn rfl) hn0 (H.sel' [1, 2, 0, 2, 3] rfl rfl : Hp S0 σ0 _ ([_, _] ++ _))) wn ?_
 rintro _ σ14 ⟨_, ⟨a12, c13, rfl, rfl⟩, H, -⟩
 replace H : Hp _ _ _ [_, _, _, _, _] := H
 refine w_end (q_then ?_)
 obtain ⟨o15, hj, h'⟩ := bind_some h
 clear h
 refine c_cut (fun e a w => e = .normal ∧ ∃ (ρ : Nat → Value) (σ : St) (aj1 : Option Addr) (cj2 : Nat) (aj3 : Option Addr) (cj4 : Nat), a = fr 30 (updL ρ [(0, (pt Aj Ak)), (3, (Sl aj3 o15.2 cj4))]) ∧ w = σ.w ∧ Hp S0 σ0 σ [Ch.bx Ai Aj Ak [(Sl aj1 o15.1.1 cj2), (I o15.1.2)] Am Ao, Ch.ro 0 (Sl aj1 o15.1.1 cj2) o15.1.1, Ch.own n0 n0 (Sl aj3 o15.2 cj4) o15.2]) ?_ ?_
 ·clear h'
  rename _ = some o15 => h
  refine c_blk (c_seq (rg (st (v := (B (r9.1 == 0))) (rv_eql (a := r9.1) (b := 0) rfl rfl) (sa (B (r9.1 == 0)) rfl (w_end (q_then ?_))))))
  refine cd_cond (r9.1 == 0) rfl (fun hb16 => ?_) (fun hb16 => ?_)
  ·replace h := bif_t hb16 h
   refine rg (sm (Sl a4 r1.1 c5) rfl (sm (pt Aj Ak) rfl ?_))
   revert h; refine br fun r17 hx18 h => ?_
   have hc19 := c_spec_anyItem (Ai := Ai) (Aj := Aj) (Ak := Ak) (Am := Am) (Ao := Ao) (Ag := a12) (Ah := c13) hx18
   refine st_call (cx_call hc19 (ent_f hc19.fn rfl) hn0 (H.sel' [0, 1, 1, 2, 3, 4] rfl rfl : Hp S0 σ0 _ ([_, _] ++ _))) wn ?_
   rintro _ σ24 ⟨_, ⟨a20, c21, a22, c23, rfl, rfl⟩, H, -⟩
   replace H : Hp _ _ _ [_, _, _, _, _, _, _] := H
   obtain ⟨σ25, hw26, H, -⟩ := H.pub 0 rfl (Nat.le_refl _)
   rw [← hw26]; clear hw26
   refine st_ex (ex_buildSlice (el := n0) (xs := ([(r17.1.1, r17.1.2.1, r17.1.2.2)] : List (Int × (List Int) × Int))) (ps := [(0, (.agg #[(I r17.1.1), (Sl a20 r17.1.2.1 c21), (I r17.1.2.2)]))]) (cs := [(I r17.1.1), (Sl a20 r17.1.2.1 c21), (I r17.1.2.2)]) H hn0 Tryz.underlying23 ti49 rfl rfl (by kernel_rfl) (.cons (c := [(I r17.1.1), (Sl a20 r17.1.2.1 c21), (I r17.1.2.2)]) ⟨[(I r17.1.1)], [(Sl a20 r17.1.2.1 c21), (I r17.1.2.2)], rfl, rfl, ⟨[(Sl a20 r17.1.2.1 c21)], [(I r17.1.2.2)], rfl, ⟨_, rfl, (H.ro 0 rfl)⟩, rfl⟩⟩ (.nil)) rfl) wn ?_
   rintro _ σ28 ⟨b27, rfl, H, -⟩
   replace H : Hp S0 σ0 σ28 [Ch.own n0 n0 (Sl (some ⟨b27, 0, none⟩) ([(r17.1.1, r17.1.2.1, r17.1.2.2)] : List (Int × (List Int) × Int)) 1) ([(r17.1.1, r17.1.2.1, r17.1.2.2)] : List (Int × (List Int) × Int)), Ch.bx Ai Aj Ak [(Sl a22 r17.2.1 c23), (I r17.2.2)] Am Ao, Ch.ro 0 (Sl a22 r17.2.1 c23) r17.2.1, Ch.own n0 n0 (Sl a4 r1.1 c5) r1.1] := H.sel' [0, 2, 3, 5] rfl rfl
   revert h; refine br fun xs29 hx30 h => ?_
   refine st_ex (ex_append H (i := 3) rfl Tryz.underlying23 Tryz.underlying23 ti49 rfl rfl (by decide) (H.own 0 rfl).rd hx30 hn0 rfl rfl) wn ?_
   rintro _ σ33 ⟨a31, c32, rfl, H, -⟩
   refine sa (Sl a31 xs29 c32) rfl (w_end (q_blk ?_))
   obtain rfl := sj h
   exact ⟨rfl, _, σ33, a22, c23, a31, c32, fr_join ⟨rfl, rfl, trivial⟩, rfl, H.sel' [2, 3, 0] rfl rfl⟩
  ·replace h := bif_f hb16 h
   refine c_seq (rg (st (v := (B (r9.1 == 1))) (rv_eql (a := r9.1) (b := 1) rfl rfl) (sa (B (r9.1 == 1)) rfl (w_end (q_then ?_)))))
   refine cd_cond (r9.1 == 1) rfl (fun hb34 => ?_) (fun hb34 => ?_)
   ·replace h := bif_t hb34 h
    refine c_seq (rg (sm (Sl a4 r1.1 c5) rfl (st (v := (I (r1.1.length : Int))) (rv_len Tryz.underlying23 rfl) (st (v := (B (decide (0 < (r1.1.length : Int))))) (rv_gtr (a := (r1.1.length : Int)) (b := 0) rfl rfl) (w_end (q_then ?_))))))
    refine cd_cond (decide (0 < (r1.1.length : Int))) rfl (fun hb35 => ?_) (fun hb35 => ?_)
    ·replace h := bif_t hb35 h
     refine rg (sm (Sl a4 r1.1 c5) rfl (sm (pt Aj Ak) rfl (sm (Sl a4 r1.1 c5) rfl (st (v := (I (r1.1.length : Int))) (rv_len Tryz.underlying23 rfl) ?_))))
     revert h; refine br fun r36 hx37 h => ?_
     have hc38 := c_spec_reader_pick (Ai := Ai) (Aj := Aj) (Ak := Ak) (Am := Am) (Ao := Ao) (Ag := a12) (Ah := c13) hx37
     refine st_call (cx_call hc38 (ent_f hc38.fn rfl) hn0 (H.sel' [0, 1, 1, 2, 3, 4] rfl rfl : Hp S0 σ0 _ ([_, _] ++ _))) wn ?_
     rintro _ σ41 ⟨_, ⟨a39, c40, rfl, rfl⟩, H, -⟩
     replace H : Hp _ _ _ [_, _, _, _, _, _] := H
     refine sm (pt Aj Ak) rfl ?_
     revert h; refine br fun r42 hx43 h => ?_
     have hc44 := c_spec_anyVector (Ai := Ai) (Aj := Aj) (Ak := Ak) (Am := Am) (Ao := Ao) (Ag := a39) (Ah := c40) hx43
     refine st_call (cx_call hc44 (ent_f hc44.fn rfl) hn0 (H.sel' [0, 1, 1, 2, 3, 4, 5] rfl rfl : Hp S0 σ0 _ ([_, _] ++ _))) wn ?_
     rintro _ σ49 ⟨_, ⟨a45, c46, a47, c48, rfl, rfl⟩, H, -⟩
     replace H : Hp _ _ _ [_, _, _, _, _, _, _, _] := H
     replace H : Hp S0 σ0 σ49 [Ch.own n0 n0 (Sl a45 r42.1 c46) r42.1, Ch.bx Ai Aj Ak [(Sl a47 r42.2.1 c48), (I r42.2.2)] Am Ao, Ch.ro 0 (Sl a47 r42.2.1 c48) r42.2.1, Ch.own n0 n0 (Sl a4 r1.1 c5) r1.1] := H.sel' [0, 1, 2, 5] rfl rfl
     revert h; refine br fun x50 hx51 h => ?_
     obtain ⟨b53, o54, hi52, -⟩ := (H.own 3 rfl).ix hx51
     refine st (v := (pt b53 o54)) (rv_ix Tryz.underlying23 ti49 rfl rfl hi52) (st (v := (pt b53 (o54 + 1))) (rv_fieldAddr (off := 1) (ft := 24) Tryz.underlying49 rfl ti24 rfl rfl) ?_)
     obtain ⟨σ55, hw56, H, -⟩ := H.pub 0 rfl (Nat.le_refl _)
     rw [← hw56]; clear hw56
     refine st_exS (ex_store_own (e' := (x50.1, r42.1, x50.2.2)) (vs := [(Sl a45 r42.1 c46)]) (k := 1) H (i := 3) rfl ti24 hx51 hi52 rfl rfl rfl rfl rfl (Nat.le_of_ble_eq_true rfl) (by simp [plain]) (by rintro _ ⟨_, _, rfl, rfl, ⟨_, _, rfl, ⟨_, rfl, hR59⟩, rfl⟩⟩; exact ⟨[(I x50.1)], [(Sl a45 r42.1 c46), (I x50.2.2)], rfl, rfl, ⟨[(Sl a45 r42.1 c46)], [(I x50.2.2)], rfl, ⟨_, rfl, (H.ro 0 rfl)⟩, rfl⟩⟩)) wn ?_
     rintro σ60 ⟨H, -⟩
     have hsl : (Sl a4 r1.1 c5) = (Sl a4 (r1.1.set r36.1.toNat (x50.1, r42.1, x50.2.2)) c5) := sl_len List.length_set.symm
     rw [hsl]; rw [hsl] at H; clear hsl
     refine w_end (q_blk ?_)
     obtain rfl := sj h
     exact ⟨rfl, _, σ60, a47, c48, a4, c5, fr_join ⟨rfl, rfl, trivial⟩, rfl, H.sel' [2, 3, 0] rfl rfl⟩
    ·replace h := bif_f hb35 h
     refine c_skip (q_blk ?_)
     obtain rfl := sj h
     exact ⟨rfl, _, σ14, a12, c13, a4, c5, fr_join ⟨rfl, rfl, trivial⟩, rfl, H.sel' [0, 1, 2] rfl rfl⟩
   ·replace h := bif_f hb34 h
    refine c_skip (q_blk ?_)
    obtain rfl := sj h
    exact ⟨rfl, _, σ14, a12, c13, a4, c5, fr_join ⟨rfl, rfl, trivial⟩, rfl, H.sel' [0, 1, 2] rfl rfl⟩
 ·clear hj
  have h := h'
  clear h' H
  rintro e a w ⟨rfl, ρ, σ61, a62, c63, a64, c65, rfl, rfl, H⟩
  refine q_then (c_seq (rg (sm (Sl a64 o15.2 c65) rfl (sa (Sl a64 o15.2 c65) rfl (w_end (q_then (c_ret ?_)))))))
  obtain rfl := sj h
  exact fin_ret (v := (Sl a64 o15.2 c65)) (results_ok Tryz.results10 (res_tmp (v := (Sl a64 o15.2 c65)) rfl res_nil) rfl) ⟨a64, c65, a62, c63, rfl, rfl⟩ (H.sel' [2, 0, 1] rfl rfl)

theorem c_spec_anyKind {Ae : (List UInt8) × Int} {Ag : Option Addr} {Ah : Nat} {Ai Aj Ak : Nat} {Am Ao : List Value} {r : Int × ((List UInt8) × Int)} (h : M.spec_anyKind Ae = some r) :
    Cal2 Tryz.prog 11 [(pt Aj Ak)] [Ch.bx Ai Aj Ak [(Sl Ag Ae.1 Ah), (I Ae.2)] Am Ao, Ch.ro 0 (Sl Ag Ae.1 Ah) Ae.1] (fun n0 v L => ∃ (az1 : Option Addr), ∃ (cz2 : Nat), v = (I r.1) ∧ L = [Ch.bx Ai Aj Ak [(Sl az1 r.2.1 cz2), (I r.2.2)] Am Ao, Ch.ro 0 (Sl az1 r.2.1 cz2) r.2.1]) := by
 refine cal2 (n := 6) Tryz.func11 rfl rfl rfl rfl ?_
 intro S0 σ0 n0 hn0 H
 unfold M.spec_anyKind at h
 refine c_seq (rg (sa (I 0) rfl (w_end (q_then (c_seq (rg (sm (pt Aj Ak) rfl ?_)))))))
 refine st_ex (ex_buildSlice (el := n0) (xs := ([1, 2, 3, 4, 1, 2, 3, 4, 1, 2, 0, 5] : List Int)) (ps := [(0, (I 1)), (1, (I 2)), (2, (I 3)), (3, (I 4)), (4, (I 1)), (5, (I 2)), (6, (I 3)), (7, (I 4)), (8, (I 1)), (9, (I 2)), (10, (I 0)), (11, (I 5))]) (cs := [(I 1), (I 2), (I 3), (I 4), (I 1), (I 2), (I 3), (I 4), (I 1), (I 2), (I 0), (I 5)]) H hn0 Tryz.underlying24 ti3 rfl rfl (by kernel_rfl) (.cons (c := [(I 1)]) rfl (.cons (c := [(I 2)]) rfl (.cons (c := [(I 3)]) rfl (.cons (c := [(I 4)]) rfl (.cons (c := [(I 1)]) rfl (.cons (c := [(I 2)]) rfl (.cons (c := [(I 3)]) rfl (.cons (c := [(I 4)]) rfl (.cons (c := [(I 1)]) rfl (.cons (c := [(I 2)]) rfl (.cons (c := [(I 0)]) rfl (.cons (c := [(I 5)]) rfl (.nil))))))))))))) rfl) wn ?_
 rintro _ σ2 ⟨b1, rfl, H, -⟩
 obtain ⟨σ3, hw4, H, -⟩ := H.pub 0 rfl (Nat.le_refl _)
 rw [← hw4]; clear hw4
 replace H := H.roLow 0 0 rfl (Nat.zero_le _)
 revert h; refine br fun r5 hx6 h => ?_
 have hc7 := c_spec_reader_one (Ai := Ai) (Aj := Aj) (Ak := Ak) (Am := Am) (Ao := Ao) (Ag := Ag) (Ah := Ah) (Aq := (some ⟨b1, 0, none⟩)) (Ar := 12) hx6
 refine st_call (cx_call hc7 (ent_f hc7.fn rfl) hn0 (H.sel' [2, 3, 0, 0, 1, 3] rfl rfl : Hp S0 σ0 _ ([_, _, _] ++ _))) wn ?_
 rintro _ σ10 ⟨_, ⟨a8, c9, rfl, rfl⟩, H, -⟩
 replace H : Hp _ _ _ [_, _, _, _, _] := H
 refine sa (I r5.1) rfl (w_end (q_then (c_ret ?_)))
 obtain rfl := sj h
 exact fin_ret (v := (I r5.1)) (results_ok Tryz.results11 (res_tmp (v := (I r5.1)) rfl res_nil) rfl) ⟨a8, c9, rfl, rfl⟩ (H.sel' [0, 1] rfl rfl)

theorem c_spec_someMany {Ae : (List UInt8) × Int} {Ag : Option Addr} {Ah : Nat} {Ai Aj Ak : Nat} {Am Ao : List Value} {r : Int × ((List UInt8) × Int)} (h : M.spec_someMany Ae = some r) :
    Cal2 Tryz.prog 12 [(pt Aj Ak)] [Ch.bx Ai Aj Ak [(Sl Ag Ae.1 Ah), (I Ae.2)] Am Ao, Ch.ro 0 (Sl Ag Ae.1 Ah) Ae.1] (fun n0 v L => ∃ (az1 : Option Addr), ∃ (cz2 : Nat), v = (I r.1) ∧ L = [Ch.bx Ai Aj Ak [(Sl az1 r.2.1 cz2), (I r.2.2)] Am Ao, Ch.ro 0 (Sl az1 r.2.1 cz2) r.2.1]) := by
 refine cal2 (n := 6) Tryz.func12 rfl rfl rfl rfl ?_
 intro S0 σ0 n0 hn0 H
 unfold M.spec_someMany at h
 refine c_seq (rg (sa (I 0) rfl (w_end (q_then (c_seq (rg (sm (pt Aj Ak) rfl ?_)))))))
 refine st_ex (ex_buildSlice (el := n0) (xs := ([1, 2, 3, 5, 0, 6, 2] : List Int)) (ps := [(0, (I 1)), (1, (I 2)), (2, (I 3)), (3, (I 5)), (4, (I 0)), (5, (I 6)), (6, (I 2))]) (cs := [(I 1), (I 2), (I 3), (I 5), (I 0), (I 6), (I 2)]) H hn0 Tryz.underlying24 ti3 rfl rfl (by kernel_rfl) (.cons (c := [(I 1)]) rfl (.cons (c := [(I 2)]) rfl (.cons (c := [(I 3)]) rfl (.cons (c := [(I 5)]) rfl (.cons (c := [(I 0)]) rfl (.cons (c := [(I 6)]) rfl (.cons (c := [(I 2)]) rfl (.nil)))))))) rfl) wn ?_
 rintro _ σ2 ⟨b1, rfl, H, -⟩
 obtain ⟨σ3, hw4, H, -⟩ := H.pub 0 rfl (Nat.le_refl _)
 rw [← hw4]; clear hw4
 replace H := H.roLow 0 0 rfl (Nat.zero_le _)
 revert h; refine br fun r5 hx6 h => ?_
 have hc7 := c_spec_reader_one (Ai := Ai) (Aj := Aj) (Ak := Ak) (Am := Am) (Ao := Ao) (Ag := Ag) (Ah := Ah) (Aq := (some ⟨b1, 0, none⟩)) (Ar := 7) hx6
 refine st_call (cx_call hc7 (ent_f hc7.fn rfl) hn0 (H.sel' [2, 3, 0, 0, 1, 3] rfl rfl : Hp S0 σ0 _ ([_, _, _] ++ _))) wn ?_
 rintro _ σ10 ⟨_, ⟨a8, c9, rfl, rfl⟩, H, -⟩
 replace H : Hp _ _ _ [_, _, _, _, _] := H
 refine sa (I r5.1) rfl (w_end (q_then (c_ret ?_)))
 obtain rfl := sj h
 exact fin_ret (v := (I r5.1)) (results_ok Tryz.results12 (res_tmp (v := (I r5.1)) rfl res_nil) rfl) ⟨a8, c9, rfl, rfl⟩ (H.sel' [0, 1] rfl rfl)

theorem c_spec_someKey {Ae : (List UInt8) × Int} {Ap : List (Int × (List Int) × Int)} {Ag : Option Addr} {Ah : Nat} {Ai Aj Ak : Nat} {Am Ao : List Value} {Aq : Option Addr} {Ar : Nat} {r : Int × ((List UInt8) × Int)} (h : M.spec_someKey Ae Ap = some r) :
    Cal2 Tryz.prog 13 [(pt Aj Ak), (Sl Aq Ap Ar)] [Ch.bx Ai Aj Ak [(Sl Ag Ae.1 Ah), (I Ae.2)] Am Ao, Ch.ro 0 (Sl Ag Ae.1 Ah) Ae.1, Ch.ro 0 (Sl Aq Ap Ar) Ap] (fun n0 v L => ∃ (az1 : Option Addr), ∃ (cz2 : Nat), v = (I r.1) ∧ L = [Ch.bx Ai Aj Ak [(Sl az1 r.2.1 cz2), (I r.2.2)] Am Ao, Ch.ro 0 (Sl az1 r.2.1 cz2) r.2.1]) := by
 refine cal2 (n := 24) Tryz.func13 rfl rfl rfl rfl ?_
 intro S0 σ0 n0 hn0 H
 unfold M.spec_someKey at h
 refine c_seq (rg (sa (I 0) rfl (w_end (q_then (c_seq (c_seq ?_))))))
 obtain ⟨o1, hj, h'⟩ := bind_some h
 clear h
 refine c_cut (fun e a w => e = .normal ∧ ∃ (ρ : Nat → Value) (σ : St) (aj1 : Option Addr) (cj2 : Nat), a = fr 24 (updL ρ [(0, (pt Aj Ak)), (1, (Sl Aq Ap Ar)), (12, (B o1.2))]) ∧ w = σ.w ∧ Hp S0 σ0 σ [Ch.bx Ai Aj Ak [(Sl aj1 o1.1.1 cj2), (I o1.1.2)] Am Ao, Ch.ro 0 (Sl aj1 o1.1.1 cj2) o1.1.1, Ch.ro 0 (Sl Aq Ap Ar) Ap]) ?_ ?_
 ·clear h'
  rename _ = some o1 => h
  refine rg (sm (Sl Aq Ap Ar) rfl (st (v := (I (Ap.length : Int))) (rv_len Tryz.underlying23 rfl) (st (v := (B (decide (0 < (Ap.length : Int))))) (rv_gtr (a := (Ap.length : Int)) (b := 0) rfl rfl) (sm (B (decide (0 < (Ap.length : Int)))) rfl ?_))))
  rcases Bool.eq_false_or_eq_true (decide (0 < (Ap.length : Int))) with hb2 | hb2
  ·replace h := bif_t hb2 h
   refine st_g (v := (pt Aj Ak)) (congrArg some hb2) (rv_move rfl) ?_
   revert h; refine br fun r3 hx4 h => ?_
   have hc5 := c_spec_reader_pick (Ai := Ai) (Aj := Aj) (Ak := Ak) (Am := Am) (Ao := Ao) (Ag := Ag) (Ah := Ah) hx4
   refine st_call (cx_call hc5 (ent_f hc5.fn rfl) hn0 (H.sel' [0, 1, 1, 2] rfl rfl : Hp S0 σ0 _ ([_, _] ++ _))) (wanted_yes rfl (by exact (congrArg some hb2))) ?_
   rintro _ σ8 ⟨_, ⟨a6, c7, rfl, rfl⟩, H, -⟩
   replace H : Hp _ _ _ [_, _, _, _] := H
   refine st_g (v := (B (decide (0 < r3.1)))) (congrArg some hb2) (rv_gtr (a := r3.1) (b := 0) rfl rfl) (st (v := (B (decide (0 < r3.1)))) (rv_pick_t (congrArg B hb2) rfl) (w_end ?_))
   obtain rfl := sj h
   exact ⟨rfl, _, σ8, a6, c7, fr_join ⟨rfl, rfl, rfl, trivial⟩, rfl, H.sel' [0, 1, 3] rfl rfl⟩
  ·replace h := bif_f hb2 h
   refine st_skip (congrArg some hb2) (st_skip (congrArg some hb2) (st_skip (congrArg some hb2) (st (v := (B false)) (rv_pick_f (congrArg B hb2) rfl) (w_end ?_))))
   obtain rfl := sj h
   exact ⟨rfl, _, σ0, Ag, Ah, fr_join ⟨rfl, rfl, rfl, trivial⟩, rfl, H.sel' [0, 1, 2] rfl rfl⟩
 ·clear hj
  have h := h'
  clear h' H
  rintro e a w ⟨rfl, ρ, σ9, a10, c11, rfl, rfl, H⟩
  refine q_then ?_
  refine cd_cond o1.2 rfl (fun hb12 => ?_) (fun hb12 => ?_)
  ·replace h := bif_t hb12 h
   refine c_seq (rg (sm (Sl Aq Ap Ar) rfl (sm (pt Aj Ak) rfl (sm (Sl Aq Ap Ar) rfl (st (v := (I (Ap.length : Int))) (rv_len Tryz.underlying23 rfl) ?_)))))
   revert h; refine br fun r13 hx14 h => ?_
   have hc15 := c_spec_reader_pick (Ai := Ai) (Aj := Aj) (Ak := Ak) (Am := Am) (Ao := Ao) (Ag := a10) (Ah := c11) hx14
   refine st_call (cx_call hc15 (ent_f hc15.fn rfl) hn0 (H.sel' [0, 1, 1, 2] rfl rfl : Hp S0 σ0 _ ([_, _] ++ _))) wn ?_
   rintro _ σ18 ⟨_, ⟨a16, c17, rfl, rfl⟩, H, -⟩
   replace H : Hp _ _ _ [_, _, _, _] := H
   revert h; refine br fun x19 hx20 h => ?_
   obtain ⟨b22, o23, hi21, -⟩ := (H.ro 3 rfl).ix hx20
   refine st (v := (pt b22 o23)) (rv_ix Tryz.underlying23 ti49 rfl rfl hi21) (st (v := (pt b22 (o23 + 0))) (rv_fieldAddr (off := 0) (ft := 3) Tryz.underlying49 rfl ti3 rfl rfl) ?_)
   have hc24 := ((H.ro 3 rfl).at hx20 hi21).fst.int
   refine st (v := (I x19.1)) (rv_load1 Tryz.underlying3 rfl rfl hc24) (sa (I x19.1) rfl (w_end (q_then (c_ret (q_then_r ?_)))))
   obtain rfl := sj h
   exact fin_ret (v := (I x19.1)) (results_ok Tryz.results13 (res_tmp (v := (I x19.1)) rfl res_nil) rfl) ⟨a16, c17, rfl, rfl⟩ (H.sel' [0, 1] rfl rfl)
  ·replace h := bif_f hb12 h
   refine c_skip (q_then (c_seq (rg (sm (pt Aj Ak) rfl ?_))))
   refine st_ex (ex_buildSlice (el := n0) (xs := ([5, 99, 0, 31, -1] : List Int)) (ps := [(0, (I 5)), (1, (I 99)), (2, (I 0)), (3, (I 31)), (4, (I (-1)))]) (cs := [(I 5), (I 99), (I 0), (I 31), (I (-1))]) H hn0 Tryz.underlying24 ti3 rfl rfl (by kernel_rfl) (.cons (c := [(I 5)]) rfl (.cons (c := [(I 99)]) rfl (.cons (c := [(I 0)]) rfl (.cons (c := [(I 31)]) rfl (.cons (c := [(I (-1))]) rfl (.nil)))))) rfl) wn ?_
   rintro _ σ26 ⟨b25, rfl, H, -⟩
   obtain ⟨σ27, hw28, H, -⟩ := H.pub 0 rfl (Nat.le_refl _)
   rw [← hw28]; clear hw28
   replace H := H.roLow 0 0 rfl (Nat.zero_le _)
   revert h; refine br fun r29 hx30 h => ?_
   have hc31 := c_spec_reader_one (Ai := Ai) (Aj := Aj) (Ak := Ak) (Am := Am) (Ao := Ao) (Ag := a10) (Ah := c11) (Aq := (some ⟨b25, 0, none⟩)) (Ar := 5) hx30
   refine st_call (cx_call hc31 (ent_f hc31.fn rfl) hn0 (H.sel' [2, 3, 0, 0, 1, 3, 4] rfl rfl : Hp S0 σ0 _ ([_, _, _] ++ _))) wn ?_
   rintro _ σ34 ⟨_, ⟨a32, c33, rfl, rfl⟩, H, -⟩
   replace H : Hp _ _ _ [_, _, _, _, _, _] := H
   refine sa (I r29.1) rfl (w_end (q_then (c_ret ?_)))
   obtain rfl := sj h
   exact fin_ret (v := (I r29.1)) (results_ok Tryz.results13 (res_tmp (v := (I r29.1)) rfl res_nil) rfl) ⟨a32, c33, rfl, rfl⟩ (H.sel' [0, 1] rfl rfl)

theorem c_spec_DrawWalkTo {Aa : List UInt8} {Ac : Option Addr} {Ad : Nat} {r : (List (Int × (List Int) × Int)) × Int × Int × Int × (List Int)} (h : M.spec_DrawWalkTo Aa = some r) :
    Cal2 Tryz.prog 4 [(Sl Ac Aa Ad)] [Ch.ro 0 (Sl Ac Aa Ad) Aa] (fun n0 v L => ∃ (az1 : Option Addr), ∃ (cz2 : Nat), ∃ (az3 : Option Addr), ∃ (cz4 : Nat), v = (.tuple #[(Sl az1 r.1 cz2), (I r.2.1), (I r.2.2.1), (I r.2.2.2.1), (Sl az3 r.2.2.2.2 cz4)]) ∧ L = [Ch.ro n0 (Sl az1 r.1 cz2) r.1, Ch.own n0 n0 (Sl az3 r.2.2.2.2 cz4) r.2.2.2.2]) := by
 refine cal2 (n := 29) Tryz.func4 rfl rfl rfl rfl ?_
 intro S0 σ0 n0 hn0 H
 unfold M.spec_DrawWalkTo at h
 refine c_seq (rg (sa (.slice none 0 0) rfl (sa (I 0) rfl (sa (I 0) rfl (sa (I 0) rfl (sa (.slice none 0 0) rfl (w_end (q_then (c_seq (rg (sm (Sl Ac Aa Ad) rfl ?_)))))))))))
 revert h; refine br fun r1 hx2 h => ?_
 have hc3 := c_spec_newReader (Ac := Ac) (Ad := Ad) hx2
 refine st_call (cx_call hc3 (ent_f hc3.fn rfl) hn0 (H.sel' [0, 0] rfl rfl : Hp S0 σ0 _ ([_] ++ _))) wn ?_
 rintro _ σ7 ⟨_, ⟨b4, a5, c6, rfl, rfl⟩, H, -⟩
 replace H : Hp _ _ _ [_, _, _] := H
 refine sa (pt b4 0) rfl (w_end (q_then (c_seq (rg (sm (pt b4 0) rfl ?_)))))
 revert h; refine br fun r8 hx9 h => ?_
 have hc10 := c_spec_anyStore (Ai := n0) (Aj := b4) (Ak := 0) (Am := []) (Ao := []) (Ag := a5) (Ah := c6) hx9
 refine st_call (cx_call hc10 (ent_f hc10.fn rfl) hn0 (H.sel' [0, 1, 1, 2] rfl rfl : Hp S0 σ0 _ ([_, _] ++ _))) wn ?_
 rintro _ σ15 ⟨_, ⟨a11, c12, a13, c14, rfl, rfl⟩, H, -⟩
 replace H : Hp _ _ _ [_, _, _, _, _] := H
 refine sa (Sl a11 r8.1 c12) rfl (w_end (q_then (c_seq (rg (sm (pt b4 0) rfl ?_)))))
 revert h; refine br fun r16 hx17 h => ?_
 have hc18 := c_spec_anyKind (Ai := n0) (Aj := b4) (Ak := 0) (Am := []) (Ao := []) (Ag := a13) (Ah := c14) hx17
 refine st_call (cx_call hc18 (ent_f hc18.fn rfl) hn0 (H.sel' [1, 2, 0, 2, 3, 4] rfl rfl : Hp S0 σ0 _ ([_, _] ++ _))) wn ?_
 rintro _ σ21 ⟨_, ⟨a19, c20, rfl, rfl⟩, H, -⟩
 replace H : Hp _ _ _ [_, _, _, _, _, _] := H
 refine sa (I r16.1) rfl (w_end (q_then (c_seq (rg (sm (pt b4 0) rfl ?_)))))
 revert h; refine br fun r22 hx23 h => ?_
 have hc24 := c_spec_someMany (Ai := n0) (Aj := b4) (Ak := 0) (Am := []) (Ao := []) (Ag := a19) (Ah := c20) hx23
 refine st_call (cx_call hc24 (ent_f hc24.fn rfl) hn0 (H.sel' [0, 1, 1, 2, 3, 4, 5] rfl rfl : Hp S0 σ0 _ ([_, _] ++ _))) wn ?_
 rintro _ σ27 ⟨_, ⟨a25, c26, rfl, rfl⟩, H, -⟩
 replace H : Hp _ _ _ [_, _, _, _, _, _, _] := H
 refine sa (I r22.1) rfl (w_end (q_then (c_seq (rg (sm (pt b4 0) rfl (sm (Sl a11 r8.1 c12) rfl ?_))))))
 obtain ⟨σ28, hw29, H, -⟩ := H.pub 3 rfl (Nat.le_refl _)
 rw [← hw29]; clear hw29
 replace H := H.roLow 0 0 rfl (Nat.zero_le _)
 revert h; refine br fun r30 hx31 h => ?_
 have hc32 := c_spec_someKey (Ai := n0) (Aj := b4) (Ak := 0) (Am := []) (Ao := []) (Ag := a25) (Ah := c26) (Aq := a11) (Ar := c12) hx31
 refine st_call (cx_call hc32 (ent_f hc32.fn rfl) hn0 (H.sel' [2, 3, 0, 0, 1, 3, 4, 5, 6, 7] rfl rfl : Hp S0 σ0 _ ([_, _, _] ++ _))) wn ?_
 rintro _ σ35 ⟨_, ⟨a33, c34, rfl, rfl⟩, H, -⟩
 replace H : Hp _ _ _ [_, _, _, _, _, _, _, _, _] := H
 replace H : Hp S0 σ0 σ35 [Ch.bx n0 b4 0 [(Sl a33 r30.2.1 c34), (I r30.2.2)] [] [], Ch.ro 0 (Sl a33 r30.2.1 c34) r30.2.1, Ch.ro n0 (Sl a11 r8.1 c12) r8.1] := H.sel' [0, 1, 3] rfl rfl
 refine sa (I r30.1) rfl (w_end (q_then (c_seq (rg (sm (Sl a11 r8.1 c12) rfl (sm (I r16.1) rfl (sm (I r22.1) rfl (sm (I r30.1) rfl (sm (pt b4 0) rfl ?_)))))))))
 revert h; refine br fun r36 hx37 h => ?_
 have hc38 := c_spec_anyVector (Ai := n0) (Aj := b4) (Ak := 0) (Am := []) (Ao := []) (Ag := a33) (Ah := c34) hx37
 refine st_call (cx_call hc38 (ent_f hc38.fn rfl) hn0 (H.sel' [0, 1, 1, 2] rfl rfl : Hp S0 σ0 _ ([_, _] ++ _))) wn ?_
 rintro _ σ43 ⟨_, ⟨a39, c40, a41, c42, rfl, rfl⟩, H, -⟩
 replace H : Hp _ _ _ [_, _, _, _, _] := H
 refine sa (Sl a11 r8.1 c12) rfl (sa (I r16.1) rfl (sa (I r22.1) rfl (sa (I r30.1) rfl (sa (Sl a39 r36.1 c40) rfl (w_end (q_then (c_ret ?_)))))))
 obtain rfl := sj h
 exact fin_ret (v := (.tuple #[(Sl a11 r8.1 c12), (I r16.1), (I r22.1), (I r30.1), (Sl a39 r36.1 c40)])) (results_ok Tryz.results4 (res_tmp (v := (Sl a11 r8.1 c12)) rfl (res_tmp (v := (I r16.1)) rfl (res_tmp (v := (I r22.1)) rfl (res_tmp (v := (I r30.1)) rfl (res_tmp (v := (Sl a39 r36.1 c40)) rfl res_nil))))) rfl) ⟨a11, c12, a39, c40, rfl, rfl⟩ (H.sel' [4, 0] rfl rfl)

theorem c_impl_validCoords {Bj : List Int} {Bk : Option Addr} {Bl : Nat} {r : Bool} (h : M.impl_validCoords Bj = some r) :
    Cal2 Tryz.prog 36 [(Sl Bk Bj Bl)] [Ch.ro 0 (Sl Bk Bj Bl) Bj] (fun n0 v L => v = (B r) ∧ L = []) := by
 refine cal2 (n := 18) Tryz.func36 rfl rfl rfl rfl ?_
 intro S0 σ0 n0 hn0 H
 unfold M.impl_validCoords at h
 refine c_seq (rg (sa (B false) rfl (w_end (q_then (c_seq (c_seq (rg (sm (Sl Bk Bj Bl) rfl (st (v := (I (Bj.length : Int))) (rv_len Tryz.underlying24 rfl) (sm (I 0) rfl (w_end ?_)))))))))))
 refine q_then ?_
 obtain ⟨o1, hj, h'⟩ := bind_some h
 clear h
 refine c_cut (fun e a w => (∃ t, o1 = (.inl t) ∧ e = .normal ∧ ∃ (ρ : Nat → Value) (σ : St), a = fr 18 (updL ρ []) ∧ w = σ.w ∧ Hp S0 σ0 σ []) ∨ (∃ t, o1 = (.inr t) ∧ e = .ret ∧ ∃ (ρ : Nat → Value) (σ : St), a = fr 18 (updL ρ [(2, (B t))]) ∧ w = σ.w ∧ Hp S0 σ0 σ [])) ?_ ?_
 ·clear h'
  rename _ = some o1 => h
  refine c_blk (wp_loopM _ h (fun s2 a w => ∃ (ρ : Nat → Value) (σ : St), a = fr 18 (updL ρ [(5, (Sl Bk Bj Bl)), (6, (I (Bj.length : Int))), (7, (I s2))]) ∧ w = σ.w ∧ Hp S0 σ0 σ [Ch.ro 0 (Sl Bk Bj Bl) Bj]) ⟨_, σ0, fr_join ⟨rfl, rfl, rfl, trivial⟩, rfl, H.sel' [0] rfl rfl⟩ ?_)
  clear h H
  rintro s2 a w o ⟨ρ, σ3, rfl, rfl, H⟩ h hres
  refine c_seq (rg (st (v := (B (decide (s2 < (Bj.length : Int))))) (rv_lss (a := s2) (b := (Bj.length : Int)) rfl rfl) (w_end (q_then (c_seq ?_)))))
  refine cd_cond (decide (s2 < (Bj.length : Int))) rfl (fun hb4 => ?_) (fun hb4 => ?_)
  ·replace h := bif_t hb4 h
   refine c_skip (q_then (c_seq (c_blk (c_seq (rg ?_)))))
   revert h; refine br fun x5 hx6 h => ?_
   obtain ⟨b8, o9, hi7, -⟩ := (H.ro 0 rfl).ix hx6
   refine st (v := (pt b8 o9)) (rv_ix Tryz.underlying24 ti3 rfl rfl hi7) ?_
   have hc10 := ((H.ro 0 rfl).at hx6 hi7).int
   refine st (v := (I x5)) (rv_load1 Tryz.underlying3 rfl rfl hc10) (sa (I x5) rfl (w_end (q_then (c_seq ?_))))
   obtain ⟨o11, hj, h'⟩ := bind_some h
   clear h
   refine c_cut (fun e a w => e = .normal ∧ ∃ (ρ : Nat → Value) (σ : St), a = fr 18 (updL ρ [(5, (Sl Bk Bj Bl)), (6, (I (Bj.length : Int))), (7, (I s2)), (16, (B o11))]) ∧ w = σ.w ∧ Hp S0 σ0 σ [Ch.ro 0 (Sl Bk Bj Bl) Bj]) ?_ ?_
   ·clear h'
    rename _ = some o11 => h
    refine rg (sm (I x5) rfl (st (v := (B (decide (x5 < (-100))))) (rv_lss (a := x5) (b := (-100)) rfl rfl) (sm (B (decide (x5 < (-100)))) rfl ?_)))
    rcases Bool.eq_false_or_eq_true (decide (x5 < (-100))) with hb12 | hb12
    ·replace h := bif_t hb12 h
     refine st_skip (congrArg some hb12) (st_skip (congrArg some hb12) (st (v := (B true)) (rv_pick_t (congrArg B hb12) rfl) (w_end ?_)))
     obtain rfl := sj h
     exact ⟨rfl, _, σ3, fr_join ⟨rfl, rfl, rfl, rfl, trivial⟩, rfl, H.sel' [0] rfl rfl⟩
    ·replace h := bif_f hb12 h
     refine st_g (v := (I x5)) (congrArg some hb12) (rv_move rfl) (st_g (v := (B (decide (100 < x5)))) (congrArg some hb12) (rv_gtr (a := x5) (b := 100) rfl rfl) (st (v := (B (decide (100 < x5)))) (rv_pick_f (congrArg B hb12) rfl) (w_end ?_)))
     obtain rfl := sj h
     exact ⟨rfl, _, σ3, fr_join ⟨rfl, rfl, rfl, rfl, trivial⟩, rfl, H.sel' [0] rfl rfl⟩
   ·clear hj
    have h := h'
    clear h' H
    rintro e a w ⟨rfl, ρ, σ13, rfl, rfl, H⟩
    refine q_then ?_
    refine cd_cond o11 rfl (fun hb14 => ?_) (fun hb14 => ?_)
    ·replace h := bif_t hb14 h
     refine c_seq (rg (sa (B false) rfl (w_end (q_then (c_ret (q_blk_r (q_then_r (q_then_r (q_blk_r ?_)))))))))
     obtain rfl := sj h
     obtain rfl := hres _ rfl
     exact .inr (⟨_, rfl, rfl, _, σ13, fr_join ⟨rfl, trivial⟩, rfl, H.sel' [] rfl rfl⟩)
    ·replace h := bif_f hb14 h
     refine c_skip (q_blk (q_then (rg (st (v := (I (w64 (s2 + 1)))) (rv_add (a := s2) (b := 1) rfl rfl) (sm (I (w64 (s2 + 1))) rfl (w_end (q_then ?_)))))))
     obtain rfl := sj h
     exact ⟨_, rfl, _, σ13, fr_join ⟨rfl, rfl, rfl, trivial⟩, rfl, H.sel' [0] rfl rfl⟩
  ·replace h := bif_f hb4 h
   refine c_exit (q_then_x (q_then_x (q_blk_hit ?_)))
   obtain rfl := sj h
   obtain rfl := hres _ rfl
   exact .inl ⟨_, rfl, rfl, _, σ3, fr_join trivial, rfl, H.sel' [] rfl rfl⟩
 ·clear hj
  have h := h'
  clear h' H
  rintro e a w (⟨t15, rfl, rfl, ρ, σ16, rfl, rfl, H⟩ | ⟨t17, rfl, rfl, ρ, σ18, rfl, rfl, H⟩)
  ·replace h := selim_l h
   refine q_then (c_seq (rg (sa (B true) rfl (w_end (q_then (c_ret ?_))))))
   obtain rfl := sj h
   exact fin_ret (v := (B true)) (results_ok Tryz.results36 (res_tmp (v := (B true)) rfl res_nil) rfl) ⟨rfl, rfl⟩ (H.sel' [] rfl rfl)
  ·replace h := selim_r h
   refine q_then_r ?_
   obtain rfl := sj h
   exact fin_ret (v := (B t17)) (results_ok Tryz.results36 (res_tmp (v := (B t17)) rfl res_nil) rfl) ⟨rfl, rfl⟩ (H.sel' [] rfl rfl)

theorem c_impl_ValidVector {Ba : List Int} {Bb : Option Addr} {Bc : Nat} {r : Bool} (h : M.impl_ValidVector Ba = some r) :
    Cal2 Tryz.prog 16 [(Sl Bb Ba Bc)] [Ch.ro 0 (Sl Bb Ba Bc) Ba] (fun n0 v L => v = (B r) ∧ L = []) := by
 refine cal2 (n := 10) Tryz.func16 rfl rfl rfl rfl ?_
 intro S0 σ0 n0 hn0 H
 unfold M.impl_ValidVector at h
 refine c_seq (rg (sa (B false) rfl (w_end (q_then (c_seq (rg (sm (Sl Bb Ba Bc) rfl (st (v := (I (Ba.length : Int))) (rv_len Tryz.underlying24 rfl) (st (v := (B ((Ba.length : Int) == 4))) (rv_eql (a := (Ba.length : Int)) (b := 4) rfl rfl) (sm (B ((Ba.length : Int) == 4)) rfl ?_))))))))))
 rcases Bool.eq_false_or_eq_true ((Ba.length : Int) == 4) with hb1 | hb1
 ·replace h := bif_t hb1 h
  refine st_g (v := (Sl Bb Ba Bc)) (congrArg some hb1) (rv_move rfl) ?_
  revert h; refine br fun r2 hx3 h => ?_
  have hc4 := c_impl_validCoords (Bk := Bb) (Bl := Bc) hx3
  refine st_call (cx_call hc4 (ent_f hc4.fn rfl) hn0 (H.sel' [0, 0] rfl rfl : Hp S0 σ0 _ ([_] ++ _))) (wanted_yes rfl (by exact (congrArg some hb1))) ?_
  rintro _ σ5 ⟨_, ⟨rfl, rfl⟩, H, -⟩
  replace H : Hp _ _ _ [_] := H
  refine st (v := (B r2)) (rv_pick_t (congrArg B hb1) rfl) (sa (B r2) rfl (w_end (q_then (c_ret ?_))))
  obtain rfl := sj h
  exact fin_ret (v := (B r2)) (results_ok Tryz.results16 (res_tmp (v := (B r2)) rfl res_nil) rfl) ⟨rfl, rfl⟩ (H.sel' [] rfl rfl)
 ·replace h := bif_f hb1 h
  refine st_skip (congrArg some hb1) (st_skip (congrArg some hb1) (st (v := (B false)) (rv_pick_f (congrArg B hb1) rfl) (sa (B false) rfl (w_end (q_then (c_ret ?_))))))
  obtain rfl := sj h
  exact fin_ret (v := (B false)) (results_ok Tryz.results16 (res_tmp (v := (B false)) rfl res_nil) rfl) ⟨rfl, rfl⟩ (H.sel' [] rfl rfl)

theorem c_impl_validKey {Bm : Int}  {r : Bool} (h : M.impl_validKey Bm = some r) :
    Cal2 Tryz.prog 70 [(I Bm)] [] (fun n0 v L => v = (B r) ∧ L = []) := by
 refine cal2 (n := 9) Tryz.func70 rfl rfl rfl rfl ?_
 intro S0 σ0 n0 hn0 H
 unfold M.impl_validKey at h
 refine c_seq (rg (sa (B false) rfl (w_end (q_then (c_seq (rg (sm (I Bm) rfl (st (v := (B (decide (1 ≤ Bm)))) (rv_geq (a := Bm) (b := 1) rfl rfl) (sm (B (decide (1 ≤ Bm))) rfl ?_)))))))))
 rcases Bool.eq_false_or_eq_true (decide (1 ≤ Bm)) with hb1 | hb1
 ·replace h := bif_t hb1 h
  refine st_g (v := (I Bm)) (congrArg some hb1) (rv_move rfl) (st_g (v := (B (decide (Bm ≤ 99)))) (congrArg some hb1) (rv_leq (a := Bm) (b := 99) rfl rfl) (st (v := (B (decide (Bm ≤ 99)))) (rv_pick_t (congrArg B hb1) rfl) (sa (B (decide (Bm ≤ 99))) rfl (w_end (q_then (c_ret ?_))))))
  obtain rfl := sj h
  exact fin_ret (v := (B (decide (Bm ≤ 99)))) (results_ok Tryz.results70 (res_tmp (v := (B (decide (Bm ≤ 99)))) rfl res_nil) rfl) ⟨rfl, rfl⟩ (H.sel' [] rfl rfl)
 ·replace h := bif_f hb1 h
  refine st_skip (congrArg some hb1) (st_skip (congrArg some hb1) (st (v := (B false)) (rv_pick_f (congrArg B hb1) rfl) (sa (B false) rfl (w_end (q_then (c_ret ?_))))))
  obtain rfl := sj h
  exact fin_ret (v := (B false)) (results_ok Tryz.results70 (res_tmp (v := (B false)) rfl res_nil) rfl) ⟨rfl, rfl⟩ (H.sel' [] rfl rfl)

theorem c_impl_validTags {Bn : Int}  {r : Bool} (h : M.impl_validTags Bn = some r) :
    Cal2 Tryz.prog 71 [(I Bn)] [] (fun n0 v L => v = (B r) ∧ L = []) := by
 refine cal2 (n := 9) Tryz.func71 rfl rfl rfl rfl ?_
 intro S0 σ0 n0 hn0 H
 unfold M.impl_validTags at h
 refine c_seq (rg (sa (B false) rfl (w_end (q_then (c_seq (rg (sm (I Bn) rfl (st (v := (B (decide (0 ≤ Bn)))) (rv_geq (a := Bn) (b := 0) rfl rfl) (sm (B (decide (0 ≤ Bn))) rfl ?_)))))))))
 rcases Bool.eq_false_or_eq_true (decide (0 ≤ Bn)) with hb1 | hb1
 ·replace h := bif_t hb1 h
  refine st_g (v := (I Bn)) (congrArg some hb1) (rv_move rfl) (st_g (v := (B (decide (Bn ≤ 15)))) (congrArg some hb1) (rv_leq (a := Bn) (b := 15) rfl rfl) (st (v := (B (decide (Bn ≤ 15)))) (rv_pick_t (congrArg B hb1) rfl) (sa (B (decide (Bn ≤ 15))) rfl (w_end (q_then (c_ret ?_))))))
  obtain rfl := sj h
  exact fin_ret (v := (B (decide (Bn ≤ 15)))) (results_ok Tryz.results71 (res_tmp (v := (B (decide (Bn ≤ 15)))) rfl res_nil) rfl) ⟨rfl, rfl⟩ (H.sel' [] rfl rfl)
 ·replace h := bif_f hb1 h
  refine st_skip (congrArg some hb1) (st_skip (congrArg some hb1) (st (v := (B false)) (rv_pick_f (congrArg B hb1) rfl) (sa (B false) rfl (w_end (q_then (c_ret ?_))))))
  obtain rfl := sj h
  exact fin_ret (v := (B false)) (results_ok Tryz.results71 (res_tmp (v := (B false)) rfl res_nil) rfl) ⟨rfl, rfl⟩ (H.sel' [] rfl rfl)

theorem c_impl_validItem {Bd : Int × (List Int) × Int} {Be : Option Addr} {Bf : Nat} {r : Bool} (h : M.impl_validItem Bd = some r) :
    Cal2 Tryz.prog 56 [(.agg #[(I Bd.1), (Sl Be Bd.2.1 Bf), (I Bd.2.2)])] [Ch.ro 0 (Sl Be Bd.2.1 Bf) Bd.2.1] (fun n0 v L => v = (B r) ∧ L = []) := by
 refine cal2 (n := 16) Tryz.func56 rfl rfl rfl rfl ?_
 intro S0 σ0 n0 hn0 H
 unfold M.impl_validItem at h
 refine c_seq (rg (st_ex (ex_box (cs := [(I Bd.1), (Sl Be Bd.2.1 Bf), (I Bd.2.2)]) H hn0 rfl rfl) wn ?_))
 rintro _ σ2 ⟨b1, rfl, H, -⟩
 refine sa (B false) rfl (w_end (q_then (c_seq (rg (st (v := (pt b1 0)) (rv_fieldAddr (off := 0) (ft := 3) Tryz.underlying49 rfl ti3 rfl rfl) ?_)))))
 have hc3 := H.cell (u := (I Bd.1)) (o' := 0) 0 0 rfl rfl rfl
 refine st (v := (I Bd.1)) (rv_load1 Tryz.underlying3 rfl rfl hc3) ?_
 revert h; refine br fun r4 hx5 h => ?_
 have hc6 := c_impl_validKey hx5
 refine st_call (cx_call hc6 (ent_f hc6.fn rfl) hn0 (H.sel' [0, 1] rfl rfl : Hp S0 σ0 _ ([] ++ _))) wn ?_
 rintro _ σ7 ⟨_, ⟨rfl, rfl⟩, H, -⟩
 replace H : Hp _ _ _ [_, _] := H
 refine sm (B r4) rfl ?_
 rcases Bool.eq_false_or_eq_true r4 with hb8 | hb8
 ·replace h := bif_t hb8 h
  refine st_g (v := (pt b1 1)) (congrArg some hb8) (rv_fieldAddr (off := 1) (ft := 24) Tryz.underlying49 rfl ti24 rfl rfl) ?_
  have hc9 := H.cell (u := (Sl Be Bd.2.1 Bf)) (o' := 1) 0 1 rfl rfl rfl
  refine st_g (v := (Sl Be Bd.2.1 Bf)) (congrArg some hb8) (rv_load1 Tryz.underlying24 rfl rfl hc9) ?_
  revert h; refine br fun r10 hx11 h => ?_
  have hc12 := c_impl_ValidVector (Bb := Be) (Bc := Bf) hx11
  refine st_call (cx_call hc12 (ent_f hc12.fn rfl) hn0 (H.sel' [1, 0, 1] rfl rfl : Hp S0 σ0 _ ([_] ++ _))) (wanted_yes rfl (by exact (congrArg some hb8))) ?_
  rintro _ σ13 ⟨_, ⟨rfl, rfl⟩, H, -⟩
  replace H : Hp _ _ _ [_, _] := H
  refine st (v := (B r10)) (rv_pick_t (congrArg B hb8) rfl) (sm (B r10) rfl ?_)
  rcases Bool.eq_false_or_eq_true r10 with hb14 | hb14
  ·replace h := bif_t hb14 h
   refine st_g (v := (pt b1 2)) (congrArg some hb14) (rv_fieldAddr (off := 2) (ft := 3) Tryz.underlying49 rfl ti3 rfl rfl) ?_
   have hc15 := H.cell (u := (I Bd.2.2)) (o' := 2) 0 2 rfl rfl rfl
   refine st_g (v := (I Bd.2.2)) (congrArg some hb14) (rv_load1 Tryz.underlying3 rfl rfl hc15) ?_
   revert h; refine br fun r16 hx17 h => ?_
   have hc18 := c_impl_validTags hx17
   refine st_call (cx_call hc18 (ent_f hc18.fn rfl) hn0 (H.sel' [0, 1] rfl rfl : Hp S0 σ0 _ ([] ++ _))) (wanted_yes rfl (by exact (congrArg some hb14))) ?_
   rintro _ σ19 ⟨_, ⟨rfl, rfl⟩, H, -⟩
   replace H : Hp _ _ _ [_, _] := H
   refine st (v := (B r16)) (rv_pick_t (congrArg B hb14) rfl) (sa (B r16) rfl (w_end (q_then (c_ret ?_))))
   obtain rfl := sj h
   exact fin_ret (v := (B r16)) (results_ok Tryz.results56 (res_tmp (v := (B r16)) rfl res_nil) rfl) ⟨rfl, rfl⟩ (H.sel' [] rfl rfl)
  ·replace h := bif_f hb14 h
   refine st_skip (congrArg some hb14) (st_skip (congrArg some hb14) (st_skip (congrArg some hb14) (st (v := (B false)) (rv_pick_f (congrArg B hb14) rfl) (sa (B false) rfl (w_end (q_then (c_ret ?_)))))))
   obtain rfl := sj h
   exact fin_ret (v := (B false)) (results_ok Tryz.results56 (res_tmp (v := (B false)) rfl res_nil) rfl) ⟨rfl, rfl⟩ (H.sel' [] rfl rfl)
 ·replace h := bif_f hb8 h
  refine st_skip (congrArg some hb8) (st_skip (congrArg some hb8) (st_skip (congrArg some hb8) (st (v := (B false)) (rv_pick_f (congrArg B hb8) rfl) (sm (B false) rfl (st_skip rfl (st_skip rfl (st_skip rfl (st (v := (B false)) (rv_pick_f rfl rfl) (sa (B false) rfl (w_end (q_then ?_)))))))))))
  refine c_ret ?_
  obtain rfl := sj h
  exact fin_ret (v := (B false)) (results_ok Tryz.results56 (res_tmp (v := (B false)) rfl res_nil) rfl) ⟨rfl, rfl⟩ (H.sel' [] rfl rfl)

theorem c_impl_ValidStore {As : List (Int × (List Int) × Int)} {Au : Option Addr} {Av : Nat} {r : Bool} (h : M.impl_ValidStore As = some r) :
    Cal2 Tryz.prog 34 [(Sl Au As Av)] [Ch.ro 0 (Sl Au As Av) As] (fun n0 v L => v = (B r) ∧ L = []) := by
 refine cal2 (n := 27) Tryz.func34 rfl rfl rfl rfl ?_
 intro S0 σ0 n0 hn0 H
 unfold M.impl_ValidStore at h
 refine c_seq (rg (sa (B false) rfl (w_end (q_then (c_seq (c_seq (rg (sm (Sl Au As Av) rfl (st (v := (I (As.length : Int))) (rv_len Tryz.underlying23 rfl) (st (v := (B (decide (16 < (As.length : Int))))) (rv_gtr (a := (As.length : Int)) (b := 16) rfl rfl) (w_end ?_)))))))))))
 refine q_then ?_
 refine cd_cond (decide (16 < (As.length : Int))) rfl (fun hb1 => ?_) (fun hb1 => ?_)
 ·replace h := bif_t hb1 h
  refine c_seq (rg (sa (B false) rfl (w_end (q_then (c_ret (q_then_r ?_))))))
  obtain rfl := sj h
  exact fin_ret (v := (B false)) (results_ok Tryz.results34 (res_tmp (v := (B false)) rfl res_nil) rfl) ⟨rfl, rfl⟩ (H.sel' [] rfl rfl)
 ·replace h := bif_f hb1 h
  refine c_skip (q_then (c_seq (rg (sa (I 0) rfl (w_end (q_then (c_seq (c_seq (rg (sm (Sl Au As Av) rfl (st (v := (I (As.length : Int))) (rv_len Tryz.underlying23 rfl) ?_)))))))))))
  refine sm (I 0) rfl (w_end (q_then ?_))
  obtain ⟨o2, hj, h'⟩ := bind_some h
  clear h
  refine c_cut (fun e a w => (∃ t, o2 = (.inl t) ∧ e = .normal ∧ ∃ (ρ : Nat → Value) (σ : St), a = fr 27 (updL ρ []) ∧ w = σ.w ∧ Hp S0 σ0 σ []) ∨ (∃ t, o2 = (.inr t) ∧ e = .ret ∧ ∃ (ρ : Nat → Value) (σ : St), a = fr 27 (updL ρ [(2, (B t))]) ∧ w = σ.w ∧ Hp S0 σ0 σ [])) ?_ ?_
  ·clear h'
   rename _ = some o2 => h
   refine c_blk (wp_loopM _ h (fun s3 a w => ∃ (ρ : Nat → Value) (σ : St), a = fr 27 (updL ρ [(3, (I s3.1)), (9, (Sl Au As Av)), (10, (I (As.length : Int))), (11, (I s3.2))]) ∧ w = σ.w ∧ Hp S0 σ0 σ [Ch.ro 0 (Sl Au As Av) As]) ⟨_, σ0, fr_join ⟨rfl, rfl, rfl, rfl, trivial⟩, rfl, H.sel' [0] rfl rfl⟩ ?_)
   clear h H
   rintro s3 a w o ⟨ρ, σ4, rfl, rfl, H⟩ h hres
   refine c_seq (rg (st (v := (B (decide (s3.2 < (As.length : Int))))) (rv_lss (a := s3.2) (b := (As.length : Int)) rfl rfl) (w_end (q_then (c_seq ?_)))))
   refine cd_cond (decide (s3.2 < (As.length : Int))) rfl (fun hb5 => ?_) (fun hb5 => ?_)
   ·replace h := bif_t hb5 h
    refine c_skip (q_then (c_seq (c_blk (c_seq (rg ?_)))))
    revert h; refine br fun x6 hx7 h => ?_
    obtain ⟨b9, o10, hi8, -⟩ := (H.ro 0 rfl).ix hx7
    refine st (v := (pt b9 o10)) (rv_ix Tryz.underlying23 ti49 rfl rfl hi8) ?_
    obtain ⟨_, ⟨_, _, rfl, rfl, ⟨_, _, rfl, ⟨_, rfl, hR15⟩, rfl⟩⟩, hl11, hc12⟩ := ((H.ro 0 rfl).at hx7 hi8).cells
    obtain ⟨a13, c14, rfl⟩ := hR15.isSl
    replace H := H.add (d := Ch.ro 0 (Sl a13 x6.2.1 c14) x6.2.1) hR15 (fun _ h => h)
    clear hR15
    refine st (v := (.agg #[(I x6.1), (Sl a13 x6.2.1 c14), (I x6.2.2)])) (rv_load Tryz.underlying49 rfl ti49 rfl hl11 hc12) (st_ex (ex_alloc (cs := [(I 0), (.slice none 0 0), (I 0)]) H hn0 ti49 rfl) wn ?_)
    rintro _ σ17 ⟨b16, rfl, H, -⟩
    refine st_exS (ex_store_box (k := 0) (cs := [(I 0), (.slice none 0 0), (I 0)]) (vs := [(I x6.1), (Sl a13 x6.2.1 c14), (I x6.2.2)]) (cs' := [(I x6.1), (Sl a13 x6.2.1 c14), (I x6.2.2)]) H (i := 0) rfl ti49 rfl rfl rfl rfl rfl (Nat.le_of_ble_eq_true rfl) (by simp [plain]) rfl) wn ?_
    rintro σ18 ⟨H, -⟩
    refine w_end (q_then (c_seq (c_seq ?_)))
    obtain ⟨o19, hj, h'⟩ := bind_some h
    clear h
    refine c_cut (fun e a w => e = .normal ∧ ∃ (ρ : Nat → Value) (σ : St), a = fr 27 (updL ρ [(5, (pt b16 0)), (9, (Sl Au As Av)), (10, (I (As.length : Int))), (11, (I s3.2)), (23, (B o19))]) ∧ w = σ.w ∧ Hp S0 σ0 σ [Ch.ro 0 (Sl a13 x6.2.1 c14) x6.2.1, Ch.bx n0 b16 0 [(I x6.1), (Sl a13 x6.2.1 c14), (I x6.2.2)] [] [], Ch.ro 0 (Sl Au As Av) As]) ?_ ?_
    ·clear h'
     rename _ = some o19 => h
     refine rg ?_
     have hc20 := H.cells 0 rfl
     refine st (v := (.agg #[(I x6.1), (Sl a13 x6.2.1 c14), (I x6.2.2)])) (rv_load (cs := [(I x6.1), (Sl a13 x6.2.1 c14), (I x6.2.2)]) Tryz.underlying49 rfl ti49 rfl rfl hc20) ?_
     revert h; refine br fun r21 hx22 h => ?_
     have hc23 := c_impl_validItem (Be := a13) (Bf := c14) hx22
     refine st_call (cx_call hc23 (ent_f hc23.fn rfl) hn0 (H.sel' [1, 0, 1, 2] rfl rfl : Hp S0 σ0 _ ([_] ++ _))) wn ?_
     rintro _ σ24 ⟨_, ⟨rfl, rfl⟩, H, -⟩
     replace H : Hp _ _ _ [_, _, _] := H
     refine st (v := (B (!r21))) (rv_not rfl) (sm (B (!r21)) rfl ?_)
     rcases Bool.eq_false_or_eq_true (!r21) with hb25 | hb25
     ·replace h := bif_t hb25 h
      refine st_skip (congrArg some hb25) (st_skip (congrArg some hb25) (st_skip (congrArg some hb25) (st_skip (congrArg some hb25) (st (v := (B true)) (rv_pick_t (congrArg B hb25) rfl) (w_end ?_)))))
      obtain rfl := sj h
      exact ⟨rfl, _, σ24, fr_join ⟨rfl, rfl, rfl, rfl, rfl, trivial⟩, rfl, H.sel' [1, 0, 2] rfl rfl⟩
     ·replace h := bif_f hb25 h
      refine st_g (v := (pt b16 0)) (congrArg some hb25) (rv_fieldAddr (off := 0) (ft := 3) Tryz.underlying49 rfl ti3 rfl rfl) ?_
      have hc26 := H.cell (u := (I x6.1)) (o' := 0) 0 0 rfl rfl rfl
      refine st_g (v := (I x6.1)) (congrArg some hb25) (rv_load1 Tryz.underlying3 rfl rfl hc26) (st_g (v := (I s3.1)) (congrArg some hb25) (rv_move rfl) (st_g (v := (B (decide (x6.1 ≤ s3.1)))) (congrArg some hb25) (rv_leq (a := x6.1) (b := s3.1) rfl rfl) (st (v := (B (decide (x6.1 ≤ s3.1)))) (rv_pick_f (congrArg B hb25) rfl) (w_end ?_))))
      obtain rfl := sj h
      exact ⟨rfl, _, σ24, fr_join ⟨rfl, rfl, rfl, rfl, rfl, trivial⟩, rfl, H.sel' [1, 0, 2] rfl rfl⟩
    ·clear hj
     have h := h'
     clear h' H
     rintro e a w ⟨rfl, ρ, σ27, rfl, rfl, H⟩
     refine q_then ?_
     refine cd_cond o19 rfl (fun hb28 => ?_) (fun hb28 => ?_)
     ·replace h := bif_t hb28 h
      refine c_seq (rg (sa (B false) rfl (w_end (q_then (c_ret (q_then_r (q_blk_r (q_then_r (q_then_r (q_blk_r ?_))))))))))
      obtain rfl := sj h
      obtain rfl := hres _ rfl
      exact .inr (⟨_, rfl, rfl, _, σ27, fr_join ⟨rfl, trivial⟩, rfl, H.sel' [] rfl rfl⟩)
     ·replace h := bif_f hb28 h
      refine c_skip (q_then (rg (st (v := (pt b16 0)) (rv_fieldAddr (off := 0) (ft := 3) Tryz.underlying49 rfl ti3 rfl rfl) ?_)))
      have hc29 := H.cell (u := (I x6.1)) (o' := 0) 1 0 rfl rfl rfl
      refine st (v := (I x6.1)) (rv_load1 Tryz.underlying3 rfl rfl hc29) (sa (I x6.1) rfl (w_end (q_blk (q_then (rg (st (v := (I (w64 (s3.2 + 1)))) (rv_add (a := s3.2) (b := 1) rfl rfl) (sm (I (w64 (s3.2 + 1))) rfl (w_end (q_then ?_)))))))))
      obtain rfl := sj h
      exact ⟨_, rfl, _, σ27, fr_join ⟨rfl, rfl, rfl, rfl, trivial⟩, rfl, H.sel' [2] rfl rfl⟩
   ·replace h := bif_f hb5 h
    refine c_exit (q_then_x (q_then_x (q_blk_hit ?_)))
    obtain rfl := sj h
    obtain rfl := hres _ rfl
    exact .inl ⟨_, rfl, rfl, _, σ4, fr_join trivial, rfl, H.sel' [] rfl rfl⟩
  ·clear hj
   have h := h'
   clear h' H
   rintro e a w (⟨t30, rfl, rfl, ρ, σ31, rfl, rfl, H⟩ | ⟨t32, rfl, rfl, ρ, σ33, rfl, rfl, H⟩)
   ·replace h := selim_l h
    refine q_then (c_seq (rg (sa (B true) rfl (w_end (q_then (c_ret ?_))))))
    obtain rfl := sj h
    exact fin_ret (v := (B true)) (results_ok Tryz.results34 (res_tmp (v := (B true)) rfl res_nil) rfl) ⟨rfl, rfl⟩ (H.sel' [] rfl rfl)
   ·replace h := selim_r h
    refine q_then_r ?_
    obtain rfl := sj h
    exact fin_ret (v := (B t32)) (results_ok Tryz.results34 (res_tmp (v := (B t32)) rfl res_nil) rfl) ⟨rfl, rfl⟩ (H.sel' [] rfl rfl)

theorem c_impl_validKind {Bo : Int}  {r : Bool} (h : M.impl_validKind Bo = some r) :
    Cal2 Tryz.prog 35 [(I Bo)] [] (fun n0 v L => v = (B r) ∧ L = []) := by
 refine cal2 (n := 9) Tryz.func35 rfl rfl rfl rfl ?_
 intro S0 σ0 n0 hn0 H
 unfold M.impl_validKind at h
 refine c_seq (rg (sa (B false) rfl (w_end (q_then (c_seq (rg (sm (I Bo) rfl (st (v := (B (decide (1 ≤ Bo)))) (rv_geq (a := Bo) (b := 1) rfl rfl) (sm (B (decide (1 ≤ Bo))) rfl ?_)))))))))
 rcases Bool.eq_false_or_eq_true (decide (1 ≤ Bo)) with hb1 | hb1
 ·replace h := bif_t hb1 h
  refine st_g (v := (I Bo)) (congrArg some hb1) (rv_move rfl) (st_g (v := (B (decide (Bo ≤ 4)))) (congrArg some hb1) (rv_leq (a := Bo) (b := 4) rfl rfl) (st (v := (B (decide (Bo ≤ 4)))) (rv_pick_t (congrArg B hb1) rfl) (sa (B (decide (Bo ≤ 4))) rfl (w_end (q_then (c_ret ?_))))))
  obtain rfl := sj h
  exact fin_ret (v := (B (decide (Bo ≤ 4)))) (results_ok Tryz.results35 (res_tmp (v := (B (decide (Bo ≤ 4)))) rfl res_nil) rfl) ⟨rfl, rfl⟩ (H.sel' [] rfl rfl)
 ·replace h := bif_f hb1 h
  refine st_skip (congrArg some hb1) (st_skip (congrArg some hb1) (st (v := (B false)) (rv_pick_f (congrArg B hb1) rfl) (sa (B false) rfl (w_end (q_then (c_ret ?_))))))
  obtain rfl := sj h
  exact fin_ret (v := (B false)) (results_ok Tryz.results35 (res_tmp (v := (B false)) rfl res_nil) rfl) ⟨rfl, rfl⟩ (H.sel' [] rfl rfl)

theorem c_impl_validLinks {As : List (Int × (List Int) × Int)} {Bp : Int} {Bq : Int} {Au : Option Addr} {Av : Nat} {r : Bool} (h : M.impl_validLinks As Bp Bq = some r) :
    Cal2 Tryz.prog 15 [(Sl Au As Av), (I Bp), (I Bq)] [Ch.ro 0 (Sl Au As Av) As] (fun n0 v L => v = (B r) ∧ L = []) := by
 refine cal2 (n := 21) Tryz.func15 rfl rfl rfl rfl ?_
 intro S0 σ0 n0 hn0 H
 unfold M.impl_validLinks at h
 refine c_seq (rg (sa (B false) rfl (w_end (q_then (c_seq (rg (sm (Sl Au As Av) rfl ?_)))))))
 revert h; refine br fun r1 hx2 h => ?_
 have hc3 := c_impl_ValidStore (Au := Au) (Av := Av) hx2
 refine st_call (cx_call hc3 (ent_f hc3.fn rfl) hn0 (H.sel' [0, 0] rfl rfl : Hp S0 σ0 _ ([_] ++ _))) wn ?_
 rintro _ σ4 ⟨_, ⟨rfl, rfl⟩, H, -⟩
 replace H : Hp _ _ _ [_] := H
 refine sm (B r1) rfl ?_
 rcases Bool.eq_false_or_eq_true r1 with hb5 | hb5
 ·replace h := bif_t hb5 h
  refine st_g (v := (I Bp)) (congrArg some hb5) (rv_move rfl) ?_
  revert h; refine br fun r6 hx7 h => ?_
  have hc8 := c_impl_validKind hx7
  refine st_call (cx_call hc8 (ent_f hc8.fn rfl) hn0 (H.sel' [0] rfl rfl : Hp S0 σ0 _ ([] ++ _))) (wanted_yes rfl (by exact (congrArg some hb5))) ?_
  rintro _ σ9 ⟨_, ⟨rfl, rfl⟩, H, -⟩
  replace H : Hp _ _ _ [_] := H
  refine st (v := (B r6)) (rv_pick_t (congrArg B hb5) rfl) (sm (B r6) rfl ?_)
  rcases Bool.eq_false_or_eq_true r6 with hb10 | hb10
  ·replace h := bif_t hb10 h
   refine st_g (v := (I Bq)) (congrArg some hb10) (rv_move rfl) (st_g (v := (B (decide (1 ≤ Bq)))) (congrArg some hb10) (rv_geq (a := Bq) (b := 1) rfl rfl) (st (v := (B (decide (1 ≤ Bq)))) (rv_pick_t (congrArg B hb10) rfl) (sm (B (decide (1 ≤ Bq))) rfl ?_)))
   rcases Bool.eq_false_or_eq_true (decide (1 ≤ Bq)) with hb11 | hb11
   ·replace h := bif_t hb11 h
    refine st_g (v := (I Bq)) (congrArg some hb11) (rv_move rfl) (st_g (v := (B (decide (Bq ≤ 5)))) (congrArg some hb11) (rv_leq (a := Bq) (b := 5) rfl rfl) (st (v := (B (decide (Bq ≤ 5)))) (rv_pick_t (congrArg B hb11) rfl) (sa (B (decide (Bq ≤ 5))) rfl (w_end (q_then (c_ret ?_))))))
    obtain rfl := sj h
    exact fin_ret (v := (B (decide (Bq ≤ 5)))) (results_ok Tryz.results15 (res_tmp (v := (B (decide (Bq ≤ 5)))) rfl res_nil) rfl) ⟨rfl, rfl⟩ (H.sel' [] rfl rfl)
   ·replace h := bif_f hb11 h
    refine st_skip (congrArg some hb11) (st_skip (congrArg some hb11) (st (v := (B false)) (rv_pick_f (congrArg B hb11) rfl) (sa (B false) rfl (w_end (q_then (c_ret ?_))))))
    obtain rfl := sj h
    exact fin_ret (v := (B false)) (results_ok Tryz.results15 (res_tmp (v := (B false)) rfl res_nil) rfl) ⟨rfl, rfl⟩ (H.sel' [] rfl rfl)
  ·replace h := bif_f hb10 h
   refine st_skip (congrArg some hb10) (st_skip (congrArg some hb10) (st (v := (B false)) (rv_pick_f (congrArg B hb10) rfl) (sm (B false) rfl (st_skip rfl (st_skip rfl (st (v := (B false)) (rv_pick_f rfl rfl) (sa (B false) rfl (w_end (q_then (c_ret ?_))))))))))
   obtain rfl := sj h
   exact fin_ret (v := (B false)) (results_ok Tryz.results15 (res_tmp (v := (B false)) rfl res_nil) rfl) ⟨rfl, rfl⟩ (H.sel' [] rfl rfl)
 ·replace h := bif_f hb5 h
  refine st_skip (congrArg some hb5) (st_skip (congrArg some hb5) (st (v := (B false)) (rv_pick_f (congrArg B hb5) rfl) (sm (B false) rfl (st_skip rfl (st_skip rfl (st (v := (B false)) (rv_pick_f rfl rfl) (sm (B false) rfl (st_skip rfl (st_skip rfl (st (v := (B false)) (rv_pick_f rfl rfl) (sa (B false) rfl ?_)))))))))))
  refine w_end (q_then (c_ret ?_))
  obtain rfl := sj h
  exact fin_ret (v := (B false)) (results_ok Tryz.results15 (res_tmp (v := (B false)) rfl res_nil) rfl) ⟨rfl, rfl⟩ (H.sel' [] rfl rfl)

theorem c_cmp_isNaN_int {Bd : Int}  {r : Bool} (h : M.cmp_isNaN_int Bd = some r) :
    Cal2 Tryz.prog 57 [(I Bd)] [] (fun n0 v L => v = (B r) ∧ L = []) := by
 refine cal2 (n := 6) Tryz.func57 rfl rfl rfl rfl ?_
 intro S0 σ0 n0 hn0 H
 unfold M.cmp_isNaN_int at h
 refine c_seq (rg (sa (B false) rfl (w_end (q_then (c_seq (rg (sm (I Bd) rfl (sm (I Bd) rfl (st (v := (B (Bd != Bd))) (rv_neq (a := Bd) (b := Bd) rfl rfl) (sa (B (Bd != Bd)) rfl (w_end ?_)))))))))))
 refine q_then (c_ret ?_)
 obtain rfl := sj h
 exact fin_ret (v := (B (Bd != Bd))) (results_ok Tryz.results57 (res_tmp (v := (B (Bd != Bd))) rfl res_nil) rfl) ⟨rfl, rfl⟩ (H.sel' [] rfl rfl)

theorem c_cmp_Compare_int {Bd : Int} {Br : Int}  {r : Int} (h : M.cmp_Compare_int Bd Br = some r) :
    Cal2 Tryz.prog 39 [(I Bd), (I Br)] [] (fun n0 v L => v = (I r) ∧ L = []) := by
 refine cal2 (n := 20) Tryz.func39 rfl rfl rfl rfl ?_
 intro S0 σ0 n0 hn0 H
 unfold M.cmp_Compare_int at h
 refine c_seq (rg (sa (I 0) rfl (w_end (q_then (c_seq (rg (sm (I Bd) rfl ?_)))))))
 revert h; refine br fun r1 hx2 h => ?_
 have hc3 := c_cmp_isNaN_int hx2
 refine st_call (cx_call hc3 (ent_f hc3.fn rfl) hn0 (H.sel' [] rfl rfl : Hp S0 σ0 _ ([] ++ _))) wn ?_
 rintro _ σ4 ⟨_, ⟨rfl, rfl⟩, H, -⟩
 replace H : Hp _ _ _ [] := H
 refine sa (B r1) rfl (w_end (q_then (c_seq (rg (sm (I Br) rfl ?_)))))
 revert h; refine br fun r5 hx6 h => ?_
 have hc7 := c_cmp_isNaN_int hx6
 refine st_call (cx_call hc7 (ent_f hc7.fn rfl) hn0 (H.sel' [] rfl rfl : Hp S0 σ0 _ ([] ++ _))) wn ?_
 rintro _ σ8 ⟨_, ⟨rfl, rfl⟩, H, -⟩
 replace H : Hp _ _ _ [] := H
 refine sa (B r5) rfl (w_end (q_then (c_seq (c_seq (rg (sm (B r1) rfl (w_end (q_then ?_))))))))
 refine cd_cond r1 rfl (fun hb9 => ?_) (fun hb9 => ?_)
 ·replace h := bif_t hb9 h
  refine c_seq (c_seq (rg (sm (B r5) rfl (w_end (q_then ?_)))))
  refine cd_cond r5 rfl (fun hb10 => ?_) (fun hb10 => ?_)
  ·replace h := bif_t hb10 h
   refine c_seq (rg (sa (I 0) rfl (w_end (q_then (c_ret (q_then_r (q_then_r ?_)))))))
   obtain rfl := sj h
   exact fin_ret (v := (I 0)) (results_ok Tryz.results39 (res_tmp (v := (I 0)) rfl res_nil) rfl) ⟨rfl, rfl⟩ (H.sel' [] rfl rfl)
  ·replace h := bif_f hb10 h
   refine c_skip (q_then (c_seq (rg (sa (I (-1)) rfl (w_end (q_then (c_ret (q_then_r ?_))))))))
   obtain rfl := sj h
   exact fin_ret (v := (I (-1))) (results_ok Tryz.results39 (res_tmp (v := (I (-1))) rfl res_nil) rfl) ⟨rfl, rfl⟩ (H.sel' [] rfl rfl)
 ·replace h := bif_f hb9 h
  refine c_skip (q_then (c_seq (c_seq (rg (sm (B r5) rfl (w_end (q_then ?_)))))))
  refine cd_cond r5 rfl (fun hb11 => ?_) (fun hb11 => ?_)
  ·replace h := bif_t hb11 h
   refine c_seq (rg (sa (I 1) rfl (w_end (q_then (c_ret (q_then_r ?_))))))
   obtain rfl := sj h
   exact fin_ret (v := (I 1)) (results_ok Tryz.results39 (res_tmp (v := (I 1)) rfl res_nil) rfl) ⟨rfl, rfl⟩ (H.sel' [] rfl rfl)
  ·replace h := bif_f hb11 h
   refine c_skip (q_then (c_seq (c_seq (rg (sm (I Bd) rfl (sm (I Br) rfl (st (v := (B (decide (Bd < Br)))) (rv_lss (a := Bd) (b := Br) rfl rfl) (w_end (q_then ?_)))))))))
   refine cd_cond (decide (Bd < Br)) rfl (fun hb12 => ?_) (fun hb12 => ?_)
   ·replace h := bif_t hb12 h
    refine c_seq (rg (sa (I (-1)) rfl (w_end (q_then (c_ret (q_then_r ?_))))))
    obtain rfl := sj h
    exact fin_ret (v := (I (-1))) (results_ok Tryz.results39 (res_tmp (v := (I (-1))) rfl res_nil) rfl) ⟨rfl, rfl⟩ (H.sel' [] rfl rfl)
   ·replace h := bif_f hb12 h
    refine c_skip (q_then (c_seq (c_seq (rg (sm (I Bd) rfl (sm (I Br) rfl (st (v := (B (decide (Br < Bd)))) (rv_gtr (a := Bd) (b := Br) rfl rfl) (w_end (q_then ?_)))))))))
    refine cd_cond (decide (Br < Bd)) rfl (fun hb13 => ?_) (fun hb13 => ?_)
    ·replace h := bif_t hb13 h
     refine c_seq (rg (sa (I 1) rfl (w_end (q_then (c_ret (q_then_r ?_))))))
     obtain rfl := sj h
     exact fin_ret (v := (I 1)) (results_ok Tryz.results39 (res_tmp (v := (I 1)) rfl res_nil) rfl) ⟨rfl, rfl⟩ (H.sel' [] rfl rfl)
    ·replace h := bif_f hb13 h
     refine c_skip (q_then (c_seq (rg (sa (I 0) rfl (w_end (q_then (c_ret ?_)))))))
     obtain rfl := sj h
     exact fin_ret (v := (I 0)) (results_ok Tryz.results39 (res_tmp (v := (I 0)) rfl res_nil) rfl) ⟨rfl, rfl⟩ (H.sel' [] rfl rfl)

theorem c_impl_placeOf_1 {Bd : Int × (List Int) × Int} {Bs : Int} {Be : Option Addr} {Bf : Nat} {r : Int} (h : M.impl_placeOf_1 Bd Bs = some r) :
    Cal2 Tryz.prog 38 [(.agg #[(I Bd.1), (Sl Be Bd.2.1 Bf), (I Bd.2.2)]), (I Bs)] [Ch.ro 0 (Sl Be Bd.2.1 Bf) Bd.2.1] (fun n0 v L => v = (I r) ∧ L = []) := by
 refine cal2 (n := 9) Tryz.func38 rfl rfl rfl rfl ?_
 intro S0 σ0 n0 hn0 H
 unfold M.impl_placeOf_1 at h
 refine c_seq (rg (st_ex (ex_box (cs := [(I Bd.1), (Sl Be Bd.2.1 Bf), (I Bd.2.2)]) H hn0 rfl rfl) wn ?_))
 rintro _ σ2 ⟨b1, rfl, H, -⟩
 refine sa (I 0) rfl (w_end (q_then (c_seq (rg (st (v := (pt b1 0)) (rv_fieldAddr (off := 0) (ft := 3) Tryz.underlying49 rfl ti3 rfl rfl) ?_)))))
 have hc3 := H.cell (u := (I Bd.1)) (o' := 0) 0 0 rfl rfl rfl
 refine st (v := (I Bd.1)) (rv_load1 Tryz.underlying3 rfl rfl hc3) (sm (I Bs) rfl ?_)
 revert h; refine br fun r4 hx5 h => ?_
 have hc6 := c_cmp_Compare_int hx5
 refine st_call (cx_call hc6 (ent_f hc6.fn rfl) hn0 (H.sel' [0, 1] rfl rfl : Hp S0 σ0 _ ([] ++ _))) wn ?_
 rintro _ σ7 ⟨_, ⟨rfl, rfl⟩, H, -⟩
 replace H : Hp _ _ _ [_, _] := H
 refine sa (I r4) rfl (w_end (q_then (c_ret ?_)))
 obtain rfl := sj h
 exact fin_ret (v := (I r4)) (results_ok Tryz.results38 (res_tmp (v := (I r4)) rfl res_nil) rfl) ⟨rfl, rfl⟩ (H.sel' [] rfl rfl)

theorem c_slices_BinarySearchFunc_impl_Item_impl_Item_int__impl_placeOf_1 {Bd : List (Int × (List Int) × Int)} {Bt : Int} {Bu : Option Addr} {Bv : Nat} {r : Int × Bool} (h : M.slices_BinarySearchFunc_impl_Item_impl_Item_int__impl_placeOf_1 Bd Bt = some r) :
    Cal2 Tryz.prog 37 [(Sl Bu Bd Bv), (I Bt), (.func (.func 38) #[] #[])] [Ch.ro 0 (Sl Bu Bd Bv) Bd] (fun n0 v L => v = (.tuple #[(I r.1), (B r.2)]) ∧ L = []) := by
 refine cal2 (n := 49) Tryz.func37 rfl rfl rfl rfl ?_
 intro S0 σ0 n0 hn0 H
 unfold M.slices_BinarySearchFunc_impl_Item_impl_Item_int__impl_placeOf_1 at h
 refine c_seq (rg (sa (I 0) rfl (sa (B false) rfl (w_end (q_then (c_seq (rg (sm (Sl Bu Bd Bv) rfl (st (v := (I (Bd.length : Int))) (rv_len Tryz.underlying23 rfl) (sa (I (Bd.length : Int)) rfl (w_end ?_)))))))))))
 refine q_then (c_seq (rg (sm (I (Bd.length : Int)) rfl (sa (I 0) rfl (sa (I (Bd.length : Int)) rfl (w_end (q_then (c_seq ?_))))))))
 obtain ⟨o1, hj, h'⟩ := bind_some h
 clear h
 refine c_cut (fun e a w => e = .normal ∧ ∃ (ρ : Nat → Value) (σ : St), a = fr 49 (updL ρ [(0, (Sl Bu Bd Bv)), (1, (I Bt)), (2, (.func (.func 38) #[] #[])), (8, (I (Bd.length : Int))), (9, (I o1))]) ∧ w = σ.w ∧ Hp S0 σ0 σ [Ch.ro 0 (Sl Bu Bd Bv) Bd]) ?_ ?_
 ·clear h'
  rename _ = some o1 => h
  refine c_blk (wp_loopM _ h (fun s2 a w => ∃ (ρ : Nat → Value) (σ : St), a = fr 49 (updL ρ [(0, (Sl Bu Bd Bv)), (1, (I Bt)), (2, (.func (.func 38) #[] #[])), (8, (I (Bd.length : Int))), (9, (I s2.1)), (10, (I s2.2))]) ∧ w = σ.w ∧ Hp S0 σ0 σ [Ch.ro 0 (Sl Bu Bd Bv) Bd]) ⟨_, σ0, fr_join ⟨rfl, rfl, rfl, rfl, rfl, rfl, trivial⟩, rfl, H.sel' [0] rfl rfl⟩ ?_)
  clear h H
  rintro s2 a w o ⟨ρ, σ3, rfl, rfl, H⟩ h hres
  refine c_seq (c_seq (rg (sm (I s2.1) rfl (sm (I s2.2) rfl (st (v := (B (decide (s2.1 < s2.2)))) (rv_lss (a := s2.1) (b := s2.2) rfl rfl) (w_end (q_then ?_)))))))
  refine cd_cond (decide (s2.1 < s2.2)) rfl (fun hb4 => ?_) (fun hb4 => ?_)
  ·replace h := bif_t hb4 h
   refine c_skip (q_then (c_blk (c_seq (rg (sm (I s2.1) rfl (sm (I s2.2) rfl (st (v := (I (w64 (s2.1 + s2.2)))) (rv_add (a := s2.1) (b := s2.2) rfl rfl) (st (v := (.int .u64 (wk .u64 (w64 (s2.1 + s2.2))))) (rvk_conv (k := .i64) (k' := .u64) (a := (w64 (s2.1 + s2.2))) Tryz.underlying3 Tryz.underlying81 rfl) ?_))))))))
   refine st (v := (.int .u64 (gshr .u64 (wk .u64 (w64 (s2.1 + s2.2))) 1))) (rvk_shr (k := .u64) (k' := .u64) (a := (wk .u64 (w64 (s2.1 + s2.2)))) (b := 1) rfl rfl (by decide)) ?_
   refine st (v := (I (wk .i64 (gshr .u64 (wk .u64 (w64 (s2.1 + s2.2))) 1)))) (rvk_conv (k := .u64) (k' := .i64) (a := (gshr .u64 (wk .u64 (w64 (s2.1 + s2.2))) 1)) Tryz.underlying81 Tryz.underlying3 rfl) (sa (I (wk .i64 (gshr .u64 (wk .u64 (w64 (s2.1 + s2.2))) 1))) rfl (w_end (q_then (c_seq (rg (sm (.func (.func 38) #[] #[]) rfl (sm (Sl Bu Bd Bv) rfl (sm (I (wk .i64 (gshr .u64 (wk .u64 (w64 (s2.1 + s2.2))) 1))) rfl ?_))))))))
   revert h; refine br fun x5 hx6 h => ?_
   obtain ⟨b8, o9, hi7, -⟩ := (H.ro 0 rfl).ix hx6
   refine st (v := (pt b8 o9)) (rv_ix Tryz.underlying23 ti49 rfl rfl hi7) ?_
   obtain ⟨_, ⟨_, _, rfl, rfl, ⟨_, _, rfl, ⟨_, rfl, hR14⟩, rfl⟩⟩, hl10, hc11⟩ := ((H.ro 0 rfl).at hx6 hi7).cells
   obtain ⟨a12, c13, rfl⟩ := hR14.isSl
   replace H := H.add (d := Ch.ro 0 (Sl a12 x5.2.1 c13) x5.2.1) hR14 (fun _ h => h)
   clear hR14
   refine st (v := (.agg #[(I x5.1), (Sl a12 x5.2.1 c13), (I x5.2.2)])) (rv_load Tryz.underlying49 rfl ti49 rfl hl10 hc11) (sm (I Bt) rfl ?_)
   revert h; refine br fun r15 hx16 h => ?_
   have hc17 := c_impl_placeOf_1 (Be := a12) (Bf := c13) hx16
   refine st_call (cx_call hc17 (ent_v (cap := []) hc17.fn rfl rfl) hn0 (H.sel' [0, 0, 1] rfl rfl : Hp S0 σ0 _ ([_] ++ _))) wn ?_
   rintro _ σ18 ⟨_, ⟨rfl, rfl⟩, H, -⟩
   replace H : Hp _ _ _ [_, _] := H
   refine st (v := (B (decide (r15 < 0)))) (rv_lss (a := r15) (b := 0) rfl rfl) (w_end (q_then ?_))
   refine cd_cond (decide (r15 < 0)) rfl (fun hb19 => ?_) (fun hb19 => ?_)
   ·replace h := bif_t hb19 h
    refine rg (sm (I (wk .i64 (gshr .u64 (wk .u64 (w64 (s2.1 + s2.2))) 1))) rfl (st (v := (I (w64 ((wk .i64 (gshr .u64 (wk .u64 (w64 (s2.1 + s2.2))) 1)) + 1)))) (rv_add (a := (wk .i64 (gshr .u64 (wk .u64 (w64 (s2.1 + s2.2))) 1))) (b := 1) rfl rfl) (sa (I (w64 ((wk .i64 (gshr .u64 (wk .u64 (w64 (s2.1 + s2.2))) 1)) + 1))) rfl (w_end (q_blk (q_then ?_))))))
    obtain rfl := sj h
    exact ⟨_, rfl, _, σ18, fr_join ⟨rfl, rfl, rfl, rfl, rfl, rfl, trivial⟩, rfl, H.sel' [1] rfl rfl⟩
   ·replace h := bif_f hb19 h
    refine rg (sm (I (wk .i64 (gshr .u64 (wk .u64 (w64 (s2.1 + s2.2))) 1))) rfl (sa (I (wk .i64 (gshr .u64 (wk .u64 (w64 (s2.1 + s2.2))) 1))) rfl (w_end (q_blk (q_then ?_)))))
    obtain rfl := sj h
    exact ⟨_, rfl, _, σ18, fr_join ⟨rfl, rfl, rfl, rfl, rfl, rfl, trivial⟩, rfl, H.sel' [1] rfl rfl⟩
  ·replace h := bif_f hb4 h
   refine c_exit (q_then_x (q_then_x (q_blk_hit ?_)))
   obtain rfl := sj h
   obtain rfl := hres _ rfl
   exact ⟨rfl, _, σ3, fr_join ⟨rfl, rfl, rfl, rfl, rfl, trivial⟩, rfl, H.sel' [0] rfl rfl⟩
 ·clear hj
  have h := h'
  clear h' H
  rintro e a w ⟨rfl, ρ, σ20, rfl, rfl, H⟩
  refine q_then (c_seq (rg (sm (I o1) rfl (sm (I o1) rfl (sm (I (Bd.length : Int)) rfl (st (v := (B (decide (o1 < (Bd.length : Int))))) (rv_lss (a := o1) (b := (Bd.length : Int)) rfl rfl) (sm (B (decide (o1 < (Bd.length : Int)))) rfl ?_)))))))
  rcases Bool.eq_false_or_eq_true (decide (o1 < (Bd.length : Int))) with hb21 | hb21
  ·replace h := bif_t hb21 h
   refine st_g (v := (.func (.func 38) #[] #[])) (congrArg some hb21) (rv_move rfl) (st_g (v := (Sl Bu Bd Bv)) (congrArg some hb21) (rv_move rfl) (st_g (v := (I o1)) (congrArg some hb21) (rv_move rfl) ?_))
   revert h; refine br fun x22 hx23 h => ?_
   obtain ⟨b25, o26, hi24, -⟩ := (H.ro 0 rfl).ix hx23
   refine st_g (v := (pt b25 o26)) (congrArg some hb21) (rv_ix Tryz.underlying23 ti49 rfl rfl hi24) ?_
   obtain ⟨_, ⟨_, _, rfl, rfl, ⟨_, _, rfl, ⟨_, rfl, hR31⟩, rfl⟩⟩, hl27, hc28⟩ := ((H.ro 0 rfl).at hx23 hi24).cells
   obtain ⟨a29, c30, rfl⟩ := hR31.isSl
   replace H := H.add (d := Ch.ro 0 (Sl a29 x22.2.1 c30) x22.2.1) hR31 (fun _ h => h)
   clear hR31
   refine st_g (v := (.agg #[(I x22.1), (Sl a29 x22.2.1 c30), (I x22.2.2)])) (congrArg some hb21) (rv_load Tryz.underlying49 rfl ti49 rfl hl27 hc28) (st_g (v := (I Bt)) (congrArg some hb21) (rv_move rfl) ?_)
   revert h; refine br fun r32 hx33 h => ?_
   have hc34 := c_impl_placeOf_1 (Be := a29) (Bf := c30) hx33
   refine st_call (cx_call hc34 (ent_v (cap := []) hc34.fn rfl rfl) hn0 (H.sel' [0, 0, 1] rfl rfl : Hp S0 σ0 _ ([_] ++ _))) (wanted_yes rfl (by exact (congrArg some hb21))) ?_
   rintro _ σ35 ⟨_, ⟨rfl, rfl⟩, H, -⟩
   replace H : Hp _ _ _ [_, _] := H
   refine st_g (v := (B (r32 == 0))) (congrArg some hb21) (rv_eql (a := r32) (b := 0) rfl rfl) (st (v := (B (r32 == 0))) (rv_pick_t (congrArg B hb21) rfl) (sa (I o1) rfl (sa (B (r32 == 0)) rfl (w_end (q_then (c_ret ?_))))))
   obtain rfl := sj h
   exact fin_ret (v := (.tuple #[(I o1), (B (r32 == 0))])) (results_ok Tryz.results37 (res_tmp (v := (I o1)) rfl (res_tmp (v := (B (r32 == 0))) rfl res_nil)) rfl) ⟨rfl, rfl⟩ (H.sel' [] rfl rfl)
  ·replace h := bif_f hb21 h
   refine st_skip (congrArg some hb21) (st_skip (congrArg some hb21) (st_skip (congrArg some hb21) (st_skip (congrArg some hb21) (st_skip (congrArg some hb21) (st_skip (congrArg some hb21) (st_skip (congrArg some hb21) (st_skip (congrArg some hb21) (st (v := (B false)) (rv_pick_f (congrArg B hb21) rfl) (sa (I o1) rfl (sa (B false) rfl (w_end ?_)))))))))))
   refine q_then (c_ret ?_)
   obtain rfl := sj h
   exact fin_ret (v := (.tuple #[(I o1), (B false)])) (results_ok Tryz.results37 (res_tmp (v := (I o1)) rfl (res_tmp (v := (B false)) rfl res_nil)) rfl) ⟨rfl, rfl⟩ (H.sel' [] rfl rfl)

theorem c_impl_placeOf {As : List (Int × (List Int) × Int)} {Bs : Int} {Au : Option Addr} {Av : Nat} {r : Int × Bool} (h : M.impl_placeOf As Bs = some r) :
    Cal2 Tryz.prog 17 [(Sl Au As Av), (I Bs)] [Ch.ro 0 (Sl Au As Av) As] (fun n0 v L => v = (.tuple #[(I r.1), (B r.2)]) ∧ L = []) := by
 refine cal2 (n := 11) Tryz.func17 rfl rfl rfl rfl ?_
 intro S0 σ0 n0 hn0 H
 unfold M.impl_placeOf at h
 refine c_seq (rg (sa (I 0) rfl (sa (B false) rfl (w_end (q_then (c_seq (rg (sm (Sl Au As Av) rfl (sm (I Bs) rfl ?_)))))))))
 revert h; refine br fun r1 hx2 h => ?_
 have hc3 := c_slices_BinarySearchFunc_impl_Item_impl_Item_int__impl_placeOf_1 (Bu := Au) (Bv := Av) hx2
 refine st_call (cx_call hc3 (ent_f hc3.fn rfl) hn0 (H.sel' [0, 0] rfl rfl : Hp S0 σ0 _ ([_] ++ _))) wn ?_
 rintro _ σ4 ⟨_, ⟨rfl, rfl⟩, H, -⟩
 replace H : Hp _ _ _ [_] := H
 refine st (v := (I r1.1)) (rv_extract rfl rfl) (st (v := (B r1.2)) (rv_extract rfl rfl) (sa (I r1.1) rfl (sa (B r1.2) rfl (w_end (q_then (c_ret ?_))))))
 obtain rfl := sj h
 exact fin_ret (v := (.tuple #[(I r1.1), (B r1.2)])) (results_ok Tryz.results17 (res_tmp (v := (I r1.1)) rfl (res_tmp (v := (B r1.2)) rfl res_nil)) rfl) ⟨rfl, rfl⟩ (H.sel' [] rfl rfl)

theorem c_slices_Clone_impl_Item_impl_Item {Bw : List (Int × (List Int) × Int)} {By : Option Addr} {Bz : Nat} {r : (List (Int × (List Int) × Int))} (h : M.slices_Clone_impl_Item_impl_Item Bw = some r) :
    Cal2 Tryz.prog 58 [(Sl By Bw Bz)] [Ch.ro 0 (Sl By Bw Bz) Bw] (fun n0 v L => ∃ (az1 : Option Addr), ∃ (cz2 : Nat), v = (Sl az1 r cz2) ∧ L = [Ch.own n0 0 (Sl az1 r cz2) r]) := by
 refine cal2 (n := 8) Tryz.func58 rfl rfl rfl rfl ?_
 intro S0 σ0 n0 hn0 H
 unfold M.slices_Clone_impl_Item_impl_Item at h
 refine c_seq (rg (sa (.slice none 0 0) rfl (w_end (q_then (c_seq (c_seq (rg (sm (Sl By Bw Bz) rfl (st (v := (B By.isNone)) (rv_nilS Tryz.underlying23 rfl rfl) (w_end (q_then ?_)))))))))))
 refine cd_cond By.isNone rfl (fun hb1 => ?_) (fun hb1 => ?_)
 ·have hq := RS.nilOf hb1 (H.ro 0 rfl)
  subst hq
  replace h : some [] = some r := by simpa [gapp] using h
  refine c_seq (rg (sa (.slice none 0 0) rfl (w_end (q_then (c_ret (q_then_r ?_))))))
  replace H := H.nilOwn (Int × (List Int) × Int) n0 0
  obtain rfl := sj h
  exact fin_ret (v := (.slice none 0 0)) (results_ok Tryz.results58 (res_tmp (v := (.slice none 0 0)) rfl res_nil) rfl) ⟨none, 0, rfl, rfl⟩ (H.sel' [0] rfl rfl)
 ·refine c_skip ?_
  refine q_then (c_seq (rg ?_))
  refine st_ex (ex_buildSlice (el := n0) (xs := ([] : List (Int × (List Int) × Int))) (ps := []) (cs := []) H hn0 Tryz.underlying23 ti49 rfl rfl (by kernel_rfl) (.nil) rfl) wn ?_
  rintro _ σ3 ⟨b2, rfl, H, -⟩
  refine sm (Sl By Bw Bz) rfl ?_
  replace H := H.ownLow 0 n0 0 rfl (Nat.le_refl _) (Nat.zero_le _)
  revert h; refine br fun xs4 hx5 h => ?_
  refine st_ex (ex_append H (i := 0) rfl Tryz.underlying23 Tryz.underlying23 ti49 rfl rfl (by decide) (H.ro 1 rfl).rd hx5 hn0 rfl rfl) wn ?_
  rintro _ σ8 ⟨a6, c7, rfl, H, -⟩
  refine sa (Sl a6 xs4 c7) rfl (w_end (q_then (c_ret ?_)))
  obtain rfl := sj h
  exact fin_ret (v := (Sl a6 xs4 c7)) (results_ok Tryz.results58 (res_tmp (v := (Sl a6 xs4 c7)) rfl res_nil) rfl) ⟨a6, c7, rfl, rfl⟩ (H.sel' [0] rfl rfl)

theorem c_slices_xorshift_Next {Ae : Int} {Ai Aj Ak : Nat} {Am Ao : List Value} {r : Int × Int} (h : M.slices_xorshift_Next Ae = some r) :
    Cal2 Tryz.prog 96 [(pt Aj Ak)] [Ch.bx Ai Aj Ak [(.int .u64 Ae)] Am Ao] (fun n0 v L => v = (.int .u64 r.1) ∧ L = [Ch.bx Ai Aj Ak [(.int .u64 r.2)] Am Ao]) := by
 refine cal2 (n := 33) Tryz.func96 rfl rfl rfl rfl ?_
 intro S0 σ0 n0 hn0 H
 unfold M.slices_xorshift_Next at h
 refine c_seq (rg (sa (.int .u64 0) rfl (w_end (q_then (c_seq ?_)))))
 refine rgP (σ := σ0) 7 (by kernel_rfl) (by kernel_rfl) (by kernel_rfl) ?_
 refine sq (v := (pt Aj Ak)) (rv_move rfl) (sq (v := (pt Aj Ak)) (rv_nilCheck rfl) ?_)
 have hc1 := H.cell (u := (.int .u64 Ae)) (o' := Ak) 0 0 rfl rfl rfl
 refine sq (v := (.int .u64 Ae)) (rv_load1 Tryz.underlying130 rfl rfl hc1) (sq (v := (pt Aj Ak)) (rv_move rfl) (sq (v := (pt Aj Ak)) (rv_nilCheck rfl) ?_))
 have hc2 := H.cell (u := (.int .u64 Ae)) (o' := Ak) 0 0 rfl rfl rfl
 refine sq (v := (.int .u64 Ae)) (rv_load1 Tryz.underlying130 rfl rfl hc2) ?_
 refine sq (v := (.int .u64 (gshl .u64 Ae 13))) (rvk_shl (k := .u64) (k' := .u64) (a := Ae) (b := 13) rfl rfl (by decide)) ?_
 refine sq_end ?_
 intro σ3 hm4
 replace H := H.grow (hm4.mono fun _ h => h); clear hm4
 refine st (v := (.int .u64 (gxork .u64 Ae (gshl .u64 Ae 13)))) (rvk_xor (k := .u64) (a := Ae) (b := (gshl .u64 Ae 13)) rfl rfl) (st (v := (pt Aj Ak)) (rv_nilCheck rfl) ?_)
 refine st_exS (ex_store_box (k := 0) (cs := [(.int .u64 Ae)]) (vs := [(.int .u64 (gxork .u64 Ae (gshl .u64 Ae 13)))]) (cs' := [(.int .u64 (gxork .u64 Ae (gshl .u64 Ae 13)))]) H (i := 0) rfl ti130 rfl rfl rfl rfl rfl (Nat.le_of_ble_eq_true rfl) (by simp [plain]) rfl) wn ?_
 rintro σ5 ⟨H, -⟩
 refine w_end (q_then (c_seq ?_))
 refine rgP (σ := σ5) 7 (by kernel_rfl) (by kernel_rfl) (by kernel_rfl) ?_
 refine sq (v := (pt Aj Ak)) (rv_move rfl) (sq (v := (pt Aj Ak)) (rv_nilCheck rfl) ?_)
 have hc6 := H.cell (u := (.int .u64 (gxork .u64 Ae (gshl .u64 Ae 13)))) (o' := Ak) 0 0 rfl rfl rfl
 refine sq (v := (.int .u64 (gxork .u64 Ae (gshl .u64 Ae 13)))) (rv_load1 Tryz.underlying130 rfl rfl hc6) (sq (v := (pt Aj Ak)) (rv_move rfl) (sq (v := (pt Aj Ak)) (rv_nilCheck rfl) ?_))
 have hc7 := H.cell (u := (.int .u64 (gxork .u64 Ae (gshl .u64 Ae 13)))) (o' := Ak) 0 0 rfl rfl rfl
 refine sq (v := (.int .u64 (gxork .u64 Ae (gshl .u64 Ae 13)))) (rv_load1 Tryz.underlying130 rfl rfl hc7) ?_
 refine sq (v := (.int .u64 (gshr .u64 (gxork .u64 Ae (gshl .u64 Ae 13)) 7))) (rvk_shr (k := .u64) (k' := .u64) (a := (gxork .u64 Ae (gshl .u64 Ae 13))) (b := 7) rfl rfl (by decide)) ?_
 refine sq_end ?_
 intro σ8 hm9
 replace H := H.grow (hm9.mono fun _ h => h); clear hm9
 refine st (v := (.int .u64 (gxork .u64 (gxork .u64 Ae (gshl .u64 Ae 13)) (gshr .u64 (gxork .u64 Ae (gshl .u64 Ae 13)) 7)))) (rvk_xor (k := .u64) (a := (gxork .u64 Ae (gshl .u64 Ae 13))) (b := (gshr .u64 (gxork .u64 Ae (gshl .u64 Ae 13)) 7)) rfl rfl) (st (v := (pt Aj Ak)) (rv_nilCheck rfl) ?_)
 refine st_exS (ex_store_box (k := 0) (cs := [(.int .u64 (gxork .u64 Ae (gshl .u64 Ae 13)))]) (vs := [(.int .u64 (gxork .u64 (gxork .u64 Ae (gshl .u64 Ae 13)) (gshr .u64 (gxork .u64 Ae (gshl .u64 Ae 13)) 7)))]) (cs' := [(.int .u64 (gxork .u64 (gxork .u64 Ae (gshl .u64 Ae 13)) (gshr .u64 (gxork .u64 Ae (gshl .u64 Ae 13)) 7)))]) H (i := 0) rfl ti130 rfl rfl rfl rfl rfl (Nat.le_of_ble_eq_true rfl) (by simp [plain]) rfl) wn ?_
 rintro σ10 ⟨H, -⟩
 refine w_end (q_then (c_seq ?_))
 refine rgP (σ := σ10) 7 (by kernel_rfl) (by kernel_rfl) (by kernel_rfl) ?_
 refine sq (v := (pt Aj Ak)) (rv_move rfl) (sq (v := (pt Aj Ak)) (rv_nilCheck rfl) ?_)
 have hc11 := H.cell (u := (.int .u64 (gxork .u64 (gxork .u64 Ae (gshl .u64 Ae 13)) (gshr .u64 (gxork .u64 Ae (gshl .u64 Ae 13)) 7)))) (o' := Ak) 0 0 rfl rfl rfl
 refine sq (v := (.int .u64 (gxork .u64 (gxork .u64 Ae (gshl .u64 Ae 13)) (gshr .u64 (gxork .u64 Ae (gshl .u64 Ae 13)) 7)))) (rv_load1 Tryz.underlying130 rfl rfl hc11) (sq (v := (pt Aj Ak)) (rv_move rfl) (sq (v := (pt Aj Ak)) (rv_nilCheck rfl) ?_))
 have hc12 := H.cell (u := (.int .u64 (gxork .u64 (gxork .u64 Ae (gshl .u64 Ae 13)) (gshr .u64 (gxork .u64 Ae (gshl .u64 Ae 13)) 7)))) (o' := Ak) 0 0 rfl rfl rfl
 refine sq (v := (.int .u64 (gxork .u64 (gxork .u64 Ae (gshl .u64 Ae 13)) (gshr .u64 (gxork .u64 Ae (gshl .u64 Ae 13)) 7)))) (rv_load1 Tryz.underlying130 rfl rfl hc12) ?_
 refine sq (v := (.int .u64 (gshl .u64 (gxork .u64 (gxork .u64 Ae (gshl .u64 Ae 13)) (gshr .u64 (gxork .u64 Ae (gshl .u64 Ae 13)) 7)) 17))) (rvk_shl (k := .u64) (k' := .u64) (a := (gxork .u64 (gxork .u64 Ae (gshl .u64 Ae 13)) (gshr .u64 (gxork .u64 Ae (gshl .u64 Ae 13)) 7))) (b := 17) rfl rfl (by decide)) ?_
 refine sq_end ?_
 intro σ13 hm14
 replace H := H.grow (hm14.mono fun _ h => h); clear hm14
 refine st (v := (.int .u64 (gxork .u64 (gxork .u64 (gxork .u64 Ae (gshl .u64 Ae 13)) (gshr .u64 (gxork .u64 Ae (gshl .u64 Ae 13)) 7)) (gshl .u64 (gxork .u64 (gxork .u64 Ae (gshl .u64 Ae 13)) (gshr .u64 (gxork .u64 Ae (gshl .u64 Ae 13)) 7)) 17)))) (rvk_xor (k := .u64) (a := (gxork .u64 (gxork .u64 Ae (gshl .u64 Ae 13)) (gshr .u64 (gxork .u64 Ae (gshl .u64 Ae 13)) 7))) (b := (gshl .u64 (gxork .u64 (gxork .u64 Ae (gshl .u64 Ae 13)) (gshr .u64 (gxork .u64 Ae (gshl .u64 Ae 13)) 7)) 17)) rfl rfl) (st (v := (pt Aj Ak)) (rv_nilCheck rfl) ?_)
 refine st_exS (ex_store_box (k := 0) (cs := [(.int .u64 (gxork .u64 (gxork .u64 Ae (gshl .u64 Ae 13)) (gshr .u64 (gxork .u64 Ae (gshl .u64 Ae 13)) 7)))]) (vs := [(.int .u64 (gxork .u64 (gxork .u64 (gxork .u64 Ae (gshl .u64 Ae 13)) (gshr .u64 (gxork .u64 Ae (gshl .u64 Ae 13)) 7)) (gshl .u64 (gxork .u64 (gxork .u64 Ae (gshl .u64 Ae 13)) (gshr .u64 (gxork .u64 Ae (gshl .u64 Ae 13)) 7)) 17)))]) (cs' := [(.int .u64 (gxork .u64 (gxork .u64 (gxork .u64 Ae (gshl .u64 Ae 13)) (gshr .u64 (gxork .u64 Ae (gshl .u64 Ae 13)) 7)) (gshl .u64 (gxork .u64 (gxork .u64 Ae (gshl .u64 Ae 13)) (gshr .u64 (gxork .u64 Ae (gshl .u64 Ae 13)) 7)) 17)))]) H (i := 0) rfl ti130 rfl rfl rfl rfl rfl (Nat.le_of_ble_eq_true rfl) (by simp [plain]) rfl) wn ?_
 rintro σ15 ⟨H, -⟩
 refine w_end (q_then (c_seq (rg (sm (pt Aj Ak) rfl (st (v := (pt Aj Ak)) (rv_nilCheck rfl) ?_)))))
 have hc16 := H.cell (u := (.int .u64 (gxork .u64 (gxork .u64 (gxork .u64 Ae (gshl .u64 Ae 13)) (gshr .u64 (gxork .u64 Ae (gshl .u64 Ae 13)) 7)) (gshl .u64 (gxork .u64 (gxork .u64 Ae (gshl .u64 Ae 13)) (gshr .u64 (gxork .u64 Ae (gshl .u64 Ae 13)) 7)) 17)))) (o' := Ak) 0 0 rfl rfl rfl
 refine st (v := (.int .u64 (gxork .u64 (gxork .u64 (gxork .u64 Ae (gshl .u64 Ae 13)) (gshr .u64 (gxork .u64 Ae (gshl .u64 Ae 13)) 7)) (gshl .u64 (gxork .u64 (gxork .u64 Ae (gshl .u64 Ae 13)) (gshr .u64 (gxork .u64 Ae (gshl .u64 Ae 13)) 7)) 17)))) (rv_load1 Tryz.underlying130 rfl rfl hc16) (sa (.int .u64 (gxork .u64 (gxork .u64 (gxork .u64 Ae (gshl .u64 Ae 13)) (gshr .u64 (gxork .u64 Ae (gshl .u64 Ae 13)) 7)) (gshl .u64 (gxork .u64 (gxork .u64 Ae (gshl .u64 Ae 13)) (gshr .u64 (gxork .u64 Ae (gshl .u64 Ae 13)) 7)) 17))) rfl (w_end (q_then (c_ret ?_))))
 obtain rfl := sj h
 exact fin_ret (v := (.int .u64 (gxork .u64 (gxork .u64 (gxork .u64 Ae (gshl .u64 Ae 13)) (gshr .u64 (gxork .u64 Ae (gshl .u64 Ae 13)) 7)) (gshl .u64 (gxork .u64 (gxork .u64 Ae (gshl .u64 Ae 13)) (gshr .u64 (gxork .u64 Ae (gshl .u64 Ae 13)) 7)) 17)))) (results_ok Tryz.results96 (res_tmp (v := (.int .u64 (gxork .u64 (gxork .u64 (gxork .u64 Ae (gshl .u64 Ae 13)) (gshr .u64 (gxork .u64 Ae (gshl .u64 Ae 13)) 7)) (gshl .u64 (gxork .u64 (gxork .u64 Ae (gshl .u64 Ae 13)) (gshr .u64 (gxork .u64 Ae (gshl .u64 Ae 13)) 7)) 17)))) rfl res_nil) rfl) ⟨rfl, rfl⟩ (H.sel' [0] rfl rfl)

theorem c_impl_gapsOf {Ca : List Int} {Cb : List Int} (Cc : Ca.length = 4) (Cd : Cb.length = 4) {r : (List Int)} (h : M.impl_gapsOf Ca Cb = some r) :
    Cal2 Tryz.prog 62 [(.agg (List.map I Ca).toArray), (.agg (List.map I Cb).toArray)] [] (fun n0 v L => v = (.agg (List.map I r).toArray) ∧ L = [] ∧ r.length = 4) := by
 refine cal2 (n := 29) Tryz.func62 rfl rfl rfl rfl ?_
 intro S0 σ0 n0 hn0 H
 unfold M.impl_gapsOf at h
 refine c_seq (rg (st_ex (ex_box (cs := (List.map I Ca)) H hn0 rfl rfl) wn ?_))
 rintro _ σ2 ⟨b1, rfl, H, -⟩
 refine st_ex (ex_box (cs := (List.map I Cb)) H hn0 rfl rfl) wn ?_
 rintro _ σ4 ⟨b3, rfl, H, -⟩
 refine st_ex (ex_alloc (cs := (List.map I (List.replicate 4 0))) H hn0 ti87 rfl) wn ?_
 rintro _ σ6 ⟨b5, rfl, H, -⟩
 refine w_end (q_then (c_seq (rg (st_ex (ex_alloc (cs := (List.map I (List.replicate 4 0))) H hn0 ti87 rfl) wn ?_))))
 rintro _ σ8 ⟨b7, rfl, H, -⟩
 refine w_end (q_then (c_seq (c_seq (rg (sm (I 0) rfl (w_end (q_then ?_)))))))
 obtain ⟨o9, hj, h'⟩ := bind_some h
 clear h
 refine c_cut (fun e a w => e = .normal ∧ ∃ (ρ : Nat → Value) (σ : St), a = fr 29 (updL ρ [(4, (pt b5 0)), (5, (pt b7 0))]) ∧ w = σ.w ∧ Hp S0 σ0 σ [Ch.bx n0 b7 0 (List.map I o9) [] [], Ch.bx n0 b5 0 (List.map I (List.replicate 4 0)) [] []] ∧ o9.length = 4) ?_ ?_
 ·clear h'
  rename _ = some o9 => h
  refine c_blk (wp_loopM _ h (fun s10 a w => ∃ (ρ : Nat → Value) (σ : St), a = fr 29 (updL ρ [(2, (pt b1 0)), (3, (pt b3 0)), (4, (pt b5 0)), (5, (pt b7 0)), (7, (I s10.2))]) ∧ w = σ.w ∧ Hp S0 σ0 σ [Ch.bx n0 b7 0 (List.map I s10.1) [] [], Ch.bx n0 b1 0 (List.map I Ca) [] [], Ch.bx n0 b3 0 (List.map I Cb) [] [], Ch.bx n0 b5 0 (List.map I (List.replicate 4 0)) [] []] ∧ s10.1.length = 4) ⟨_, σ8, fr_join ⟨rfl, rfl, rfl, rfl, rfl, trivial⟩, rfl, H.sel' [0, 3, 2, 1] rfl rfl, rfl⟩ ?_)
  clear h H
  rintro s10 a w o ⟨ρ, σ11, rfl, rfl, H, hl12⟩ h hres
  refine c_seq (rg (st (v := (B (decide (s10.2 < 4)))) (rv_lss (a := s10.2) (b := 4) rfl rfl) (w_end (q_then (c_seq ?_)))))
  refine cd_cond (decide (s10.2 < 4)) rfl (fun hb13 => ?_) (fun hb13 => ?_)
  ·replace h := bif_t hb13 h
   refine c_skip (q_then (c_seq (c_blk (c_seq (rg (sm (I s10.2) rfl (sa (I s10.2) rfl (w_end (q_then ?_)))))))))
   refine rgP (σ := σ11) 16 (by kernel_rfl) (by kernel_rfl) (by kernel_rfl) ?_
   refine sq (v := (I s10.2)) (rv_move rfl) (sq (v := (I s10.2)) (rv_move rfl) ?_)
   revert h; refine br fun x14 hx15 h => ?_
   have hl16 := gidx_lt hx15 Cc
   refine sq (v := (pt b1 (0 + s10.2.toNat * 1))) (rv_indexAddr_array Tryz.underlying87 ti3 rfl rfl hl16.1 hl16.2) ?_
   have hc17 := Hp.arrCell H 1 rfl hx15
   refine sq (v := (I x14)) (rv_load1 Tryz.underlying3 rfl rfl hc17) (sq (v := (I s10.2)) (rv_move rfl) ?_)
   revert h; refine br fun x18 hx19 h => ?_
   have hl20 := gidx_lt hx19 Cd
   refine sq (v := (pt b3 (0 + s10.2.toNat * 1))) (rv_indexAddr_array Tryz.underlying87 ti3 rfl rfl hl20.1 hl20.2) ?_
   have hc21 := Hp.arrCell H 2 rfl hx19
   refine sq (v := (I x18)) (rv_load1 Tryz.underlying3 rfl rfl hc21) (sq (v := (I (w64 (x14 - x18)))) (rv_sub (a := x14) (b := x18) rfl rfl) (sq (v := (I s10.2)) (rv_move rfl) ?_))
   revert h; refine br fun x22 hx23 h => ?_
   have hl24 := gidx_lt hx23 Cd
   refine sq (v := (pt b3 (0 + s10.2.toNat * 1))) (rv_indexAddr_array Tryz.underlying87 ti3 rfl rfl hl24.1 hl24.2) ?_
   have hc25 := Hp.arrCell H 2 rfl hx23
   refine sq (v := (I x22)) (rv_load1 Tryz.underlying3 rfl rfl hc25) (sq (v := (I s10.2)) (rv_move rfl) ?_)
   revert h; refine br fun x26 hx27 h => ?_
   have hl28 := gidx_lt hx27 Cc
   refine sq (v := (pt b1 (0 + s10.2.toNat * 1))) (rv_indexAddr_array Tryz.underlying87 ti3 rfl rfl hl28.1 hl28.2) ?_
   have hc29 := Hp.arrCell H 1 rfl hx27
   refine sq (v := (I x26)) (rv_load1 Tryz.underlying3 rfl rfl hc29) (sq (v := (I (w64 (x22 - x26)))) (rv_sub (a := x22) (b := x26) rfl rfl) (sq (v := (I (max (w64 (x14 - x18)) (w64 (x22 - x26))))) (rv_max rfl rfl) (sq_end ?_)))
   intro σ30 hm31
   replace H := H.grow (hm31.mono fun _ h => h); clear hm31
   revert h; refine br fun x32 hx33 h => ?_
   have hl34 := gidx_lt hx33 hl12
   refine st (v := (pt b7 (0 + s10.2.toNat * 1))) (rv_indexAddr_array Tryz.underlying87 ti3 rfl rfl hl34.1 hl34.2) ?_
   have hl35 := gidx_lt hx33 hl12
   refine st_exS (ex_store_box (k := s10.2.toNat * 1) (vs := [(I (max (w64 (x14 - x18)) (w64 (x22 - x26))))]) (cs' := (List.map I (s10.1.set s10.2.toNat (max (w64 (x14 - x18)) (w64 (x22 - x26)))))) H (i := 0) rfl ti3 rfl rfl rfl rfl rfl (by rw [List.length_map, hl12]; simp; omega) (by simp [plain]) (arr_set' _ _ _)) wn ?_
   rintro σ36 ⟨H, -⟩
   refine w_end (q_blk (q_then (rg (st (v := (I (w64 (s10.2 + 1)))) (rv_add (a := s10.2) (b := 1) rfl rfl) (sm (I (w64 (s10.2 + 1))) rfl (w_end (q_then ?_)))))))
   obtain rfl := sj h
   exact ⟨_, rfl, _, σ36, fr_join ⟨rfl, rfl, rfl, rfl, rfl, trivial⟩, rfl, H.sel' [0, 1, 2, 3] rfl rfl, (set_len hl12)⟩
  ·replace h := bif_f hb13 h
   refine c_exit (q_then_x (q_then_x (q_blk_hit ?_)))
   obtain rfl := sj h
   obtain rfl := hres _ rfl
   exact ⟨rfl, _, σ11, fr_join ⟨rfl, rfl, trivial⟩, rfl, H.sel' [0, 3] rfl rfl, hl12⟩
 ·clear hj
  have h := h'
  clear h' H
  rintro e a w ⟨rfl, ρ, σ37, rfl, rfl, H, hl38⟩
  refine q_then (c_seq (rg ?_))
  have hc39 := H.cells 0 rfl
  refine st (v := (.agg (List.map I o9).toArray)) (rv_load (cs := (List.map I o9)) Tryz.underlying87 rfl ti87 rfl (by rw [List.length_map]; exact hl38) hc39) ?_
  refine st_exS (ex_store_box (k := 0) (cs := (List.map I (List.replicate 4 0))) (vs := (List.map I o9)) (cs' := (List.map I o9)) H (i := 1) rfl ti87 rfl rfl rfl rfl ((List.length_map _).trans hl38) (arr_fits (k := 4) hl38 rfl) (plain_ints _) (arr_all (k := 4) hl38 rfl)) wn ?_
  rintro σ40 ⟨H, -⟩
  refine w_end (q_then (c_ret ?_))
  obtain rfl := sj h
  exact fin_ret (v := (.agg (List.map I o9).toArray)) (results_ok Tryz.results62 (res_cell rfl (run_cellRes (cs := (List.map I o9)) Tryz.underlying87 rfl ti87 (by rw [List.length_map]; exact hl38) (H.cells 0 rfl)) res_nil) rfl) ⟨rfl, rfl, hl38⟩ (H.sel' [] rfl rfl)

theorem c_impl_distanceOf {Bo : Int} {Ce : List Int} (Cf : Ce.length = 4) {r : Int} (h : M.impl_distanceOf Bo Ce = some r) :
    Cal2 Tryz.prog 61 [(I Bo), (.agg (List.map I Ce).toArray)] [] (fun n0 v L => v = (I r) ∧ L = []) := by
 refine cal2 (n := 38) Tryz.func61 rfl rfl rfl rfl ?_
 intro S0 σ0 n0 hn0 H
 unfold M.impl_distanceOf at h
 refine c_seq (rg (st_ex (ex_box (cs := (List.map I Ce)) H hn0 rfl rfl) wn ?_))
 rintro _ σ2 ⟨b1, rfl, H, -⟩
 refine sa (I 0) rfl (w_end (q_then (c_seq (rg (sa (I 0) rfl (w_end (q_then (c_seq (c_seq (rg ?_))))))))))
 have hc3 := H.cells 0 rfl
 refine st (v := (.agg (List.map I Ce).toArray)) (rv_load (cs := (List.map I Ce)) Tryz.underlying87 rfl ti87 rfl (by rw [List.length_map]; exact Cf) hc3) ?_
 refine sm (I 0) rfl (w_end (q_then ?_))
 obtain ⟨o4, hj, h'⟩ := bind_some h
 clear h
 refine c_cut (fun e a w => (∃ t, o4 = (.inl t) ∧ e = .normal ∧ ∃ (ρ : Nat → Value) (σ : St), a = fr 38 (updL ρ [(5, (I t))]) ∧ w = σ.w ∧ Hp S0 σ0 σ []) ∨ (∃ t, o4 = (.inr t) ∧ e = .ret ∧ ∃ (ρ : Nat → Value) (σ : St), a = fr 38 (updL ρ [(4, (I t))]) ∧ w = σ.w ∧ Hp S0 σ0 σ [])) ?_ ?_
 ·clear h'
  rename _ = some o4 => h
  refine c_blk (wp_loopM _ h (fun s5 a w => ∃ (ρ : Nat → Value) (σ : St), a = fr 38 (updL ρ [(0, (I Bo)), (5, (I s5.1)), (8, (.agg (List.map I Ce).toArray)), (9, (I s5.2))]) ∧ w = σ.w ∧ Hp S0 σ0 σ []) ⟨_, σ2, fr_join ⟨rfl, rfl, rfl, rfl, trivial⟩, rfl, H.sel' [] rfl rfl⟩ ?_)
  clear h H
  rintro s5 a w o ⟨ρ, σ6, rfl, rfl, H⟩ h hres
  refine c_seq (rg (st (v := (B (decide (s5.2 < 4)))) (rv_lss (a := s5.2) (b := 4) rfl rfl) (w_end (q_then (c_seq ?_)))))
  refine cd_cond (decide (s5.2 < 4)) rfl (fun hb7 => ?_) (fun hb7 => ?_)
  ·replace h := bif_t hb7 h
   refine c_skip (q_then (c_seq ?_))
   obtain ⟨o8, hj, h'⟩ := bind_some h
   clear h
   refine c_cut (fun e a w => (∃ t, o8 = (.inl t) ∧ e = .normal ∧ ∃ (ρ : Nat → Value) (σ : St), a = fr 38 (updL ρ [(0, (I Bo)), (5, (I t)), (8, (.agg (List.map I Ce).toArray)), (9, (I s5.2))]) ∧ w = σ.w ∧ Hp S0 σ0 σ []) ∨ (∃ t, o8 = (.inr t) ∧ e = .ret ∧ ∃ (ρ : Nat → Value) (σ : St), a = fr 38 (updL ρ [(4, (I t))]) ∧ w = σ.w ∧ Hp S0 σ0 σ [])) ?_ ?_
   ·clear h'
    rename _ = some o8 => h
    refine c_blk (c_seq (rg ?_))
    revert h; refine br fun x9 hx10 h => ?_
    refine st (v := (I x9)) (rv_idx Tryz.underlying87 ti3 Tryz.underlying3 rfl rfl hx10 Cf) (sa (I x9) rfl (w_end (q_then (c_seq (rg (sm (I Bo) rfl (w_end (q_then (c_blk (c_seq (rg ?_)))))))))))
    refine st (v := (B (Bo == 1))) (rv_eql (a := Bo) (b := 1) rfl rfl) (sa (B (Bo == 1)) rfl (w_end (q_then ?_)))
    refine cd_cond (Bo == 1) rfl (fun hb11 => ?_) (fun hb11 => ?_)
    ·replace h := bif_t hb11 h
     refine rg (sm (I s5.1) rfl (sm (I x9) rfl (st (v := (I (w64 (s5.1 + x9)))) (rv_add (a := s5.1) (b := x9) rfl rfl) (sa (I (w64 (s5.1 + x9))) rfl (w_end (q_blk (q_blk ?_)))))))
     obtain rfl := sj h
     exact .inl ⟨_, rfl, rfl, _, σ6, fr_join ⟨rfl, rfl, rfl, rfl, trivial⟩, rfl, H.sel' [] rfl rfl⟩
    ·replace h := bif_f hb11 h
     refine c_seq (rg (st (v := (B (Bo == 2))) (rv_eql (a := Bo) (b := 2) rfl rfl) (sa (B (Bo == 2)) rfl (w_end (q_then ?_)))))
     refine cd_cond (Bo == 2) rfl (fun hb12 => ?_) (fun hb12 => ?_)
     ·replace h := bif_t hb12 h
      refine rg (sm (I s5.1) rfl (sm (I x9) rfl (st (v := (I (max s5.1 x9))) (rv_max rfl rfl) (sa (I (max s5.1 x9)) rfl (w_end (q_blk (q_blk ?_)))))))
      obtain rfl := sj h
      exact .inl ⟨_, rfl, rfl, _, σ6, fr_join ⟨rfl, rfl, rfl, rfl, trivial⟩, rfl, H.sel' [] rfl rfl⟩
     ·replace h := bif_f hb12 h
      refine c_seq (rg (st (v := (B (Bo == 3))) (rv_eql (a := Bo) (b := 3) rfl rfl) (sa (B (Bo == 3)) rfl (w_end (q_then ?_)))))
      refine cd_cond (Bo == 3) rfl (fun hb13 => ?_) (fun hb13 => ?_)
      ·replace h := bif_t hb13 h
       refine rg (sm (I s5.1) rfl (sm (I x9) rfl (sm (I x9) rfl (st (v := (I (w64 (x9 * x9)))) (rv_mul (a := x9) (b := x9) rfl rfl) (st (v := (I (w64 (s5.1 + (w64 (x9 * x9)))))) (rv_add (a := s5.1) (b := (w64 (x9 * x9))) rfl rfl) (sa (I (w64 (s5.1 + (w64 (x9 * x9))))) rfl (w_end (q_blk (q_blk ?_)))))))))
       obtain rfl := sj h
       exact .inl ⟨_, rfl, rfl, _, σ6, fr_join ⟨rfl, rfl, rfl, rfl, trivial⟩, rfl, H.sel' [] rfl rfl⟩
      ·replace h := bif_f hb13 h
       refine c_seq (rg (st (v := (B (Bo == 4))) (rv_eql (a := Bo) (b := 4) rfl rfl) (sa (B (Bo == 4)) rfl (w_end (q_then ?_)))))
       refine cd_cond (Bo == 4) rfl (fun hb14 => ?_) (fun hb14 => ?_)
       ·replace h := bif_t hb14 h
        refine rg (sm (I s5.1) rfl (sm (I x9) rfl (st (v := (I (min x9 1))) (rv_min rfl rfl) (st (v := (I (w64 (s5.1 + (min x9 1))))) (rv_add (a := s5.1) (b := (min x9 1)) rfl rfl) (sa (I (w64 (s5.1 + (min x9 1)))) rfl (w_end (q_blk (q_blk ?_))))))))
        obtain rfl := sj h
        exact .inl ⟨_, rfl, rfl, _, σ6, fr_join ⟨rfl, rfl, rfl, rfl, trivial⟩, rfl, H.sel' [] rfl rfl⟩
       ·replace h := bif_f hb14 h
        refine c_seq (rg (sa (I (-1)) rfl (w_end (q_then (c_ret (q_blk_r (q_blk_r ?_)))))))
        obtain rfl := sj h
        exact .inr (⟨_, rfl, rfl, _, σ6, fr_join ⟨rfl, trivial⟩, rfl, H.sel' [] rfl rfl⟩)
   ·clear hj
    have h := h'
    clear h' H
    rintro e a w (⟨t15, rfl, rfl, ρ, σ16, rfl, rfl, H⟩ | ⟨t17, rfl, rfl, ρ, σ18, rfl, rfl, H⟩)
    ·replace h := selim_l h
     refine q_then (rg (st (v := (I (w64 (s5.2 + 1)))) (rv_add (a := s5.2) (b := 1) rfl rfl) (sm (I (w64 (s5.2 + 1))) rfl (w_end (q_then ?_)))))
     obtain rfl := sj h
     exact ⟨_, rfl, _, σ16, fr_join ⟨rfl, rfl, rfl, rfl, trivial⟩, rfl, H.sel' [] rfl rfl⟩
    ·replace h := selim_r h
     refine q_then_r (q_then_r (q_blk_r ?_))
     obtain rfl := sj h
     obtain rfl := hres _ rfl
     exact .inr (⟨_, rfl, rfl, _, σ18, fr_join ⟨rfl, trivial⟩, rfl, H.sel' [] rfl rfl⟩)
  ·replace h := bif_f hb7 h
   refine c_exit (q_then_x (q_then_x (q_blk_hit ?_)))
   obtain rfl := sj h
   obtain rfl := hres _ rfl
   exact .inl ⟨_, rfl, rfl, _, σ6, fr_join ⟨rfl, trivial⟩, rfl, H.sel' [] rfl rfl⟩
 ·clear hj
  have h := h'
  clear h' H
  rintro e a w (⟨t19, rfl, rfl, ρ, σ20, rfl, rfl, H⟩ | ⟨t21, rfl, rfl, ρ, σ22, rfl, rfl, H⟩)
  ·replace h := selim_l h
   refine q_then (c_seq (rg (sm (I t19) rfl (sa (I t19) rfl (w_end (q_then (c_ret ?_)))))))
   obtain rfl := sj h
   exact fin_ret (v := (I t19)) (results_ok Tryz.results61 (res_tmp (v := (I t19)) rfl res_nil) rfl) ⟨rfl, rfl⟩ (H.sel' [] rfl rfl)
  ·replace h := selim_r h
   refine q_then_r ?_
   obtain rfl := sj h
   exact fin_ret (v := (I t21)) (results_ok Tryz.results61 (res_tmp (v := (I t21)) rfl res_nil) rfl) ⟨rfl, rfl⟩ (H.sel' [] rfl rfl)

end Go.Vs
