/- The functions compute what their models say. -/
import Derived.Test.YtefojfippfoppaaKProbeCostC2
set_option linter.unusedVariables false
set_option linter.unusedSimpArgs false
set_option maxRecDepth 20000
namespace Go.Vs
open Go Go.Proofs
attribute [local irreducible] Code.wp Code.wpIn wpList wpListIn wpQuiet Calls CallsIn

theorem c_spec_anyItem {r_0 : (List UInt8) × Int} {ar_0_0 : Option Addr} {cr_0_0 : Nat} {lor_0 br_0 or_0 : Nat} {prer_0 sufr_0 : List Value} {r : (Int × (List Int) × Int) × ((List UInt8) × Int)} (h : M.spec_anyItem r_0 = some r) :
    Cal2 Try.prog 101 [(pt br_0 or_0)] [Ch.bx lor_0 br_0 or_0 [(Sl ar_0_0 r_0.1 cr_0_0), (I r_0.2)] prer_0 sufr_0, Ch.ro 0 (Sl ar_0_0 r_0.1 cr_0_0) r_0.1] (fun n0 v L => ∃ (az1 : Option Addr), ∃ (cz2 : Nat), ∃ (az3 : Option Addr), ∃ (cz4 : Nat), v = (.agg #[(I r.1.1), (Sl az1 r.1.2.1 cz2), (I r.1.2.2)]) ∧ L = [Ch.own n0 n0 (Sl az1 r.1.2.1 cz2) r.1.2.1, Ch.bx lor_0 br_0 or_0 [(Sl az3 r.2.1 cz4), (I r.2.2)] prer_0 sufr_0, Ch.ro 0 (Sl az3 r.2.1 cz4) r.2.1]) := by
 refine cal2 (n := 26) Try.func101 rfl rfl rfl rfl ?_
 intro S0 σ0 n0 hn0 H
 unfold M.spec_anyItem at h
 refine c_seq ?_
 refine rg ?_
 refine st_ex (ex_alloc (cs := [(I 0), (.slice none 0 0), (I 0)]) H hn0 ti32 rfl) wn ?_
 rintro _ σ2 ⟨b1, rfl, H, -⟩
 refine w_end ?_
 refine q_then ?_
 refine c_seq ?_
 refine rg ?_
 refine st (v := (pt br_0 or_0)) (rv_move rfl) ?_
 obtain ⟨r3, hx4, h'⟩ := bind_some h
 clear h
 have h := h'; clear h'
 have hc5 := c_spec_someItem (lor_0 := lor_0) (br_0 := br_0) (or_0 := or_0) (prer_0 := prer_0) (sufr_0 := sufr_0) (ar_0_0 := ar_0_0) (cr_0_0 := cr_0_0) hx4
 refine st_call (cx_call hc5 (ent_f hc5.fn rfl) hn0 (show Hp S0 σ0 _ ([Ch.bx lor_0 br_0 or_0 [(Sl ar_0_0 r_0.1 cr_0_0), (I r_0.2)] prer_0 sufr_0, Ch.ro 0 (Sl ar_0_0 r_0.1 cr_0_0) r_0.1] ++ [Ch.bx n0 b1 0 [(I 0), (.slice none 0 0), (I 0)] [] [], Ch.ro 0 (Sl ar_0_0 r_0.1 cr_0_0) r_0.1]) from (H.sel' [1, 2, 0, 2] rfl rfl))) wn ?_
 rintro _ σ10 ⟨_, ⟨a6, c7, a8, c9, rfl, rfl⟩, H, -⟩
 replace H : Hp S0 σ0 σ10 [Ch.own n0 n0 (Sl a6 r3.1.2.1 c7) r3.1.2.1, Ch.bx lor_0 br_0 or_0 [(Sl a8 r3.2.1 c9), (I r3.2.2)] prer_0 sufr_0, Ch.ro 0 (Sl a8 r3.2.1 c9) r3.2.1, Ch.bx n0 b1 0 [(I 0), (.slice none 0 0), (I 0)] [] [], Ch.ro 0 (Sl ar_0_0 r_0.1 cr_0_0) r_0.1] := H
 refine st_ex (ex_alloc (cs := [(I 0), (.slice none 0 0), (I 0)]) H hn0 ti32 rfl) wn ?_
 rintro _ σ12 ⟨b11, rfl, H, -⟩
 refine st_exS (ex_store_box (k := 0) (cs := [(I 0), (.slice none 0 0), (I 0)]) (vs := [(I r3.1.1), (Sl a6 r3.1.2.1 c7), (I r3.1.2.2)]) (cs' := [(I r3.1.1), (Sl a6 r3.1.2.1 c7), (I r3.1.2.2)]) H (i := 0) rfl ti32 rfl rfl rfl rfl rfl (Nat.le_of_ble_eq_true rfl) (by simp [plain]) rfl) wn ?_
 rintro σ13 ⟨H, -⟩
 refine w_end ?_
 refine q_then ?_
 refine c_seq ?_
 refine c_seq ?_
 refine rg ?_
 refine st (v := (pt br_0 or_0)) (rv_move rfl) ?_
 obtain ⟨r14, hx15, h'⟩ := bind_some h
 clear h
 have h := h'; clear h'
 have hc16 := c_spec_reader_pick (lor_0 := lor_0) (br_0 := br_0) (or_0 := or_0) (prer_0 := prer_0) (sufr_0 := sufr_0) (ar_0_0 := a8) (cr_0_0 := c9) hx15
 refine st_call (cx_call hc16 (ent_f hc16.fn rfl) hn0 (show Hp S0 σ0 _ ([Ch.bx lor_0 br_0 or_0 [(Sl a8 r3.2.1 c9), (I r3.2.2)] prer_0 sufr_0, Ch.ro 0 (Sl a8 r3.2.1 c9) r3.2.1] ++ [Ch.bx n0 b11 0 [(I r3.1.1), (Sl a6 r3.1.2.1 c7), (I r3.1.2.2)] [] [], Ch.own n0 n0 (Sl a6 r3.1.2.1 c7) r3.1.2.1, Ch.ro 0 (Sl a8 r3.2.1 c9) r3.2.1, Ch.bx n0 b1 0 [(I 0), (.slice none 0 0), (I 0)] [] [], Ch.ro 0 (Sl ar_0_0 r_0.1 cr_0_0) r_0.1]) from (H.sel' [2, 3, 0, 1, 3, 4, 5] rfl rfl))) wn ?_
 rintro _ σ19 ⟨_, ⟨a17, c18, rfl, rfl⟩, H, -⟩
 replace H : Hp S0 σ0 σ19 [Ch.bx lor_0 br_0 or_0 [(Sl a17 r14.2.1 c18), (I r14.2.2)] prer_0 sufr_0, Ch.ro 0 (Sl a17 r14.2.1 c18) r14.2.1, Ch.bx n0 b11 0 [(I r3.1.1), (Sl a6 r3.1.2.1 c7), (I r3.1.2.2)] [] [], Ch.own n0 n0 (Sl a6 r3.1.2.1 c7) r3.1.2.1, Ch.ro 0 (Sl a8 r3.2.1 c9) r3.2.1, Ch.bx n0 b1 0 [(I 0), (.slice none 0 0), (I 0)] [] [], Ch.ro 0 (Sl ar_0_0 r_0.1 cr_0_0) r_0.1] := H
 refine w_end ?_
 refine q_then ?_
 obtain ⟨o20, hj, h'⟩ := bind_some h
 clear h
 refine c_cut (fun e a w => e = .normal ∧ ∃ (ρ : Nat → Value) (σ : St) (aj1 : Option Addr) (cj2 : Nat) (aj3 : Option Addr) (cj4 : Nat), a = fr 26 (updL ρ [(0, (pt br_0 or_0)), (2, (pt b1 0)), (3, (pt b11 0))]) ∧ w = σ.w ∧ Hp S0 σ0 σ [Ch.bx lor_0 br_0 or_0 [(Sl aj1 o20.1.1 cj2), (I o20.1.2)] prer_0 sufr_0, Ch.ro 0 (Sl aj1 o20.1.1 cj2) o20.1.1, Ch.bx n0 b11 0 [(I o20.2.1), (Sl aj3 o20.2.2.1 cj4), (I o20.2.2.2)] [] [], Ch.own n0 n0 (Sl aj3 o20.2.2.1 cj4) o20.2.2.1, Ch.bx n0 b1 0 [(I 0), (.slice none 0 0), (I 0)] [] []]) ?_ ?_
 ·clear h'
  rename _ = some o20 => h
  refine c_blk ?_
  refine c_seq ?_
  refine rg ?_
  refine st (v := (B (r14.1 == 0))) (rv_eql (a := r14.1) (b := 0) rfl rfl) ?_
  refine st (v := (B (r14.1 == 0))) (rv_assign rfl) ?_
  refine w_end ?_
  refine q_then ?_
  refine cd_cond (r14.1 == 0) rfl (fun hb21 => ?_) (fun hb21 => ?_)
  ·replace h := bif_t hb21 h
   refine rg ?_
   refine st (v := (pt br_0 or_0)) (rv_move rfl) ?_
   refine st_ex (ex_buildSlice (el := n0) (xs := ([0, 99, 100] : List Int)) (ps := [(0, (I 0)), (1, (I 99)), (2, (I 100))]) (cs := [(I 0), (I 99), (I 100)]) H hn0 Try.underlying29 ti3 rfl rfl (by kernel_rfl) (.cons (c := [(I 0)]) rfl (.cons (c := [(I 99)]) rfl (.cons (c := [(I 100)]) rfl (.nil)))) rfl) wn ?_
   rintro _ σ23 ⟨b22, rfl, H, -⟩
   replace H : Hp S0 σ0 σ23 [Ch.own n0 n0 (Sl (some ⟨b22, 0, none⟩) ([0, 99, 100] : List Int) 3) ([0, 99, 100] : List Int), Ch.bx lor_0 br_0 or_0 [(Sl a17 r14.2.1 c18), (I r14.2.2)] prer_0 sufr_0, Ch.ro 0 (Sl a17 r14.2.1 c18) r14.2.1, Ch.bx n0 b11 0 [(I r3.1.1), (Sl a6 r3.1.2.1 c7), (I r3.1.2.2)] [] [], Ch.own n0 n0 (Sl a6 r3.1.2.1 c7) r3.1.2.1, Ch.bx n0 b1 0 [(I 0), (.slice none 0 0), (I 0)] [] []] := H.sel' [0, 1, 2, 3, 4, 6] rfl rfl
   obtain ⟨σ24, hw25, H, -⟩ := H.pub 0 rfl (Nat.le_refl _)
   rw [← hw25]; clear hw25
   replace H := H.roLow 0 0 rfl (Nat.zero_le _)
   obtain ⟨r26, hx27, h'⟩ := bind_some h
   clear h
   have h := h'; clear h'
   have hc28 := c_spec_reader_one (lor_0 := lor_0) (br_0 := br_0) (or_0 := or_0) (prer_0 := prer_0) (sufr_0 := sufr_0) (ar_0_0 := a17) (cr_0_0 := c18) (alist_1 := (some ⟨b22, 0, none⟩)) (clist_1 := 3) hx27
   refine st_call (cx_call hc28 (ent_f hc28.fn rfl) hn0 (show Hp S0 σ0 _ ([Ch.bx lor_0 br_0 or_0 [(Sl a17 r14.2.1 c18), (I r14.2.2)] prer_0 sufr_0, Ch.ro 0 (Sl a17 r14.2.1 c18) r14.2.1, Ch.ro 0 (Sl (some ⟨b22, 0, none⟩) ([0, 99, 100] : List Int) 3) ([0, 99, 100] : List Int)] ++ [Ch.ro 0 (Sl (some ⟨b22, 0, none⟩) ([0, 99, 100] : List Int) 3) ([0, 99, 100] : List Int), Ch.ro n0 (Sl (some ⟨b22, 0, none⟩) ([0, 99, 100] : List Int) 3) ([0, 99, 100] : List Int), Ch.ro 0 (Sl a17 r14.2.1 c18) r14.2.1, Ch.bx n0 b11 0 [(I r3.1.1), (Sl a6 r3.1.2.1 c7), (I r3.1.2.2)] [] [], Ch.own n0 n0 (Sl a6 r3.1.2.1 c7) r3.1.2.1, Ch.bx n0 b1 0 [(I 0), (.slice none 0 0), (I 0)] [] []]) from (H.sel' [2, 3, 0, 0, 1, 3, 4, 5, 6] rfl rfl))) wn ?_
   rintro _ σ31 ⟨_, ⟨a29, c30, rfl, rfl⟩, H, -⟩
   replace H : Hp S0 σ0 σ31 [Ch.bx lor_0 br_0 or_0 [(Sl a29 r26.2.1 c30), (I r26.2.2)] prer_0 sufr_0, Ch.ro 0 (Sl a29 r26.2.1 c30) r26.2.1, Ch.ro 0 (Sl (some ⟨b22, 0, none⟩) ([0, 99, 100] : List Int) 3) ([0, 99, 100] : List Int), Ch.ro n0 (Sl (some ⟨b22, 0, none⟩) ([0, 99, 100] : List Int) 3) ([0, 99, 100] : List Int), Ch.ro 0 (Sl a17 r14.2.1 c18) r14.2.1, Ch.bx n0 b11 0 [(I r3.1.1), (Sl a6 r3.1.2.1 c7), (I r3.1.2.2)] [] [], Ch.own n0 n0 (Sl a6 r3.1.2.1 c7) r3.1.2.1, Ch.bx n0 b1 0 [(I 0), (.slice none 0 0), (I 0)] [] []] := H
   replace H : Hp S0 σ0 σ31 [Ch.bx lor_0 br_0 or_0 [(Sl a29 r26.2.1 c30), (I r26.2.2)] prer_0 sufr_0, Ch.ro 0 (Sl a29 r26.2.1 c30) r26.2.1, Ch.bx n0 b11 0 [(I r3.1.1), (Sl a6 r3.1.2.1 c7), (I r3.1.2.2)] [] [], Ch.own n0 n0 (Sl a6 r3.1.2.1 c7) r3.1.2.1, Ch.bx n0 b1 0 [(I 0), (.slice none 0 0), (I 0)] [] []] := H.sel' [0, 1, 5, 6, 7] rfl rfl
   refine st (v := (pt b11 0)) (rv_fieldAddr (off := 0) (ft := 3) Try.underlying32 rfl ti3 rfl rfl) ?_
   refine st_exS (ex_store_box (k := 0) (cs := [(I r3.1.1), (Sl a6 r3.1.2.1 c7), (I r3.1.2.2)]) (vs := [(I r26.1)]) (cs' := [(I r26.1), (Sl a6 r3.1.2.1 c7), (I r3.1.2.2)]) H (i := 2) rfl ti3 rfl rfl rfl rfl rfl (Nat.le_of_ble_eq_true rfl) (by simp [plain]) rfl) wn ?_
   rintro σ32 ⟨H, -⟩
   refine w_end ?_
   refine q_blk ?_
   obtain rfl := Option.some.inj h
   exact ⟨rfl, _, σ32, a29, c30, a6, c7, fr_join ⟨rfl, rfl, rfl, trivial⟩, rfl, H.sel' [1, 2, 0, 3, 4] rfl rfl⟩
  ·replace h := bif_f hb21 h
   refine c_seq ?_
   refine rg ?_
   refine st (v := (B (r14.1 == 1))) (rv_eql (a := r14.1) (b := 1) rfl rfl) ?_
   refine st (v := (B (r14.1 == 1))) (rv_assign rfl) ?_
   refine w_end ?_
   refine q_then ?_
   refine cd_cond (r14.1 == 1) rfl (fun hb33 => ?_) (fun hb33 => ?_)
   ·replace h := bif_t hb33 h
    refine rg ?_
    refine st (v := (pt br_0 or_0)) (rv_move rfl) ?_
    obtain ⟨r34, hx35, h'⟩ := bind_some h
    clear h
    have h := h'; clear h'
    have hc36 := c_spec_anyVector (lor_0 := lor_0) (br_0 := br_0) (or_0 := or_0) (prer_0 := prer_0) (sufr_0 := sufr_0) (ar_0_0 := a17) (cr_0_0 := c18) hx35
    refine st_call (cx_call hc36 (ent_f hc36.fn rfl) hn0 (show Hp S0 σ0 _ ([Ch.bx lor_0 br_0 or_0 [(Sl a17 r14.2.1 c18), (I r14.2.2)] prer_0 sufr_0, Ch.ro 0 (Sl a17 r14.2.1 c18) r14.2.1] ++ [Ch.ro 0 (Sl a17 r14.2.1 c18) r14.2.1, Ch.bx n0 b11 0 [(I r3.1.1), (Sl a6 r3.1.2.1 c7), (I r3.1.2.2)] [] [], Ch.own n0 n0 (Sl a6 r3.1.2.1 c7) r3.1.2.1, Ch.ro 0 (Sl a8 r3.2.1 c9) r3.2.1, Ch.bx n0 b1 0 [(I 0), (.slice none 0 0), (I 0)] [] [], Ch.ro 0 (Sl ar_0_0 r_0.1 cr_0_0) r_0.1]) from (H.sel' [0, 1, 1, 2, 3, 4, 5, 6] rfl rfl))) wn ?_
    rintro _ σ41 ⟨_, ⟨a37, c38, a39, c40, rfl, rfl⟩, H, -⟩
    replace H : Hp S0 σ0 σ41 [Ch.own n0 n0 (Sl a37 r34.1 c38) r34.1, Ch.bx lor_0 br_0 or_0 [(Sl a39 r34.2.1 c40), (I r34.2.2)] prer_0 sufr_0, Ch.ro 0 (Sl a39 r34.2.1 c40) r34.2.1, Ch.ro 0 (Sl a17 r14.2.1 c18) r14.2.1, Ch.bx n0 b11 0 [(I r3.1.1), (Sl a6 r3.1.2.1 c7), (I r3.1.2.2)] [] [], Ch.own n0 n0 (Sl a6 r3.1.2.1 c7) r3.1.2.1, Ch.ro 0 (Sl a8 r3.2.1 c9) r3.2.1, Ch.bx n0 b1 0 [(I 0), (.slice none 0 0), (I 0)] [] [], Ch.ro 0 (Sl ar_0_0 r_0.1 cr_0_0) r_0.1] := H
    replace H : Hp S0 σ0 σ41 [Ch.own n0 n0 (Sl a37 r34.1 c38) r34.1, Ch.bx lor_0 br_0 or_0 [(Sl a39 r34.2.1 c40), (I r34.2.2)] prer_0 sufr_0, Ch.ro 0 (Sl a39 r34.2.1 c40) r34.2.1, Ch.bx n0 b11 0 [(I r3.1.1), (Sl a6 r3.1.2.1 c7), (I r3.1.2.2)] [] [], Ch.own n0 n0 (Sl a6 r3.1.2.1 c7) r3.1.2.1, Ch.bx n0 b1 0 [(I 0), (.slice none 0 0), (I 0)] [] []] := H.sel' [0, 1, 2, 4, 5, 7] rfl rfl
    refine st (v := (pt b11 1)) (rv_fieldAddr (off := 1) (ft := 29) Try.underlying32 rfl ti29 rfl rfl) ?_
    refine st_exS (ex_store_box (k := 1) (cs := [(I r3.1.1), (Sl a6 r3.1.2.1 c7), (I r3.1.2.2)]) (vs := [(Sl a37 r34.1 c38)]) (cs' := [(I r3.1.1), (Sl a37 r34.1 c38), (I r3.1.2.2)]) H (i := 3) rfl ti29 rfl rfl rfl rfl rfl (Nat.le_of_ble_eq_true rfl) (by simp [plain]) rfl) wn ?_
    rintro σ42 ⟨H, -⟩
    refine w_end ?_
    refine q_blk ?_
    obtain rfl := Option.some.inj h
    exact ⟨rfl, _, σ42, a39, c40, a37, c38, fr_join ⟨rfl, rfl, rfl, trivial⟩, rfl, H.sel' [2, 3, 0, 1, 5] rfl rfl⟩
   ·replace h := bif_f hb33 h
    refine c_seq ?_
    refine rg ?_
    refine st (v := (B (r14.1 == 2))) (rv_eql (a := r14.1) (b := 2) rfl rfl) ?_
    refine st (v := (B (r14.1 == 2))) (rv_assign rfl) ?_
    refine w_end ?_
    refine q_then ?_
    refine cd_cond (r14.1 == 2) rfl (fun hb43 => ?_) (fun hb43 => ?_)
    ·replace h := bif_t hb43 h
     refine rg ?_
     refine st (v := (pt br_0 or_0)) (rv_move rfl) ?_
     refine st_ex (ex_buildSlice (el := n0) (xs := ([-1, 16] : List Int)) (ps := [(0, (I (-1))), (1, (I 16))]) (cs := [(I (-1)), (I 16)]) H hn0 Try.underlying29 ti3 rfl rfl (by kernel_rfl) (.cons (c := [(I (-1))]) rfl (.cons (c := [(I 16)]) rfl (.nil))) rfl) wn ?_
     rintro _ σ45 ⟨b44, rfl, H, -⟩
     replace H : Hp S0 σ0 σ45 [Ch.own n0 n0 (Sl (some ⟨b44, 0, none⟩) ([-1, 16] : List Int) 2) ([-1, 16] : List Int), Ch.bx lor_0 br_0 or_0 [(Sl a17 r14.2.1 c18), (I r14.2.2)] prer_0 sufr_0, Ch.ro 0 (Sl a17 r14.2.1 c18) r14.2.1, Ch.bx n0 b11 0 [(I r3.1.1), (Sl a6 r3.1.2.1 c7), (I r3.1.2.2)] [] [], Ch.own n0 n0 (Sl a6 r3.1.2.1 c7) r3.1.2.1, Ch.bx n0 b1 0 [(I 0), (.slice none 0 0), (I 0)] [] []] := H.sel' [0, 1, 2, 3, 4, 6] rfl rfl
     obtain ⟨σ46, hw47, H, -⟩ := H.pub 0 rfl (Nat.le_refl _)
     rw [← hw47]; clear hw47
     replace H := H.roLow 0 0 rfl (Nat.zero_le _)
     obtain ⟨r48, hx49, h'⟩ := bind_some h
     clear h
     have h := h'; clear h'
     have hc50 := c_spec_reader_one (lor_0 := lor_0) (br_0 := br_0) (or_0 := or_0) (prer_0 := prer_0) (sufr_0 := sufr_0) (ar_0_0 := a17) (cr_0_0 := c18) (alist_1 := (some ⟨b44, 0, none⟩)) (clist_1 := 2) hx49
     refine st_call (cx_call hc50 (ent_f hc50.fn rfl) hn0 (show Hp S0 σ0 _ ([Ch.bx lor_0 br_0 or_0 [(Sl a17 r14.2.1 c18), (I r14.2.2)] prer_0 sufr_0, Ch.ro 0 (Sl a17 r14.2.1 c18) r14.2.1, Ch.ro 0 (Sl (some ⟨b44, 0, none⟩) ([-1, 16] : List Int) 2) ([-1, 16] : List Int)] ++ [Ch.ro 0 (Sl (some ⟨b44, 0, none⟩) ([-1, 16] : List Int) 2) ([-1, 16] : List Int), Ch.ro n0 (Sl (some ⟨b44, 0, none⟩) ([-1, 16] : List Int) 2) ([-1, 16] : List Int), Ch.ro 0 (Sl a17 r14.2.1 c18) r14.2.1, Ch.bx n0 b11 0 [(I r3.1.1), (Sl a6 r3.1.2.1 c7), (I r3.1.2.2)] [] [], Ch.own n0 n0 (Sl a6 r3.1.2.1 c7) r3.1.2.1, Ch.bx n0 b1 0 [(I 0), (.slice none 0 0), (I 0)] [] []]) from (H.sel' [2, 3, 0, 0, 1, 3, 4, 5, 6] rfl rfl))) wn ?_
     rintro _ σ53 ⟨_, ⟨a51, c52, rfl, rfl⟩, H, -⟩
     replace H : Hp S0 σ0 σ53 [Ch.bx lor_0 br_0 or_0 [(Sl a51 r48.2.1 c52), (I r48.2.2)] prer_0 sufr_0, Ch.ro 0 (Sl a51 r48.2.1 c52) r48.2.1, Ch.ro 0 (Sl (some ⟨b44, 0, none⟩) ([-1, 16] : List Int) 2) ([-1, 16] : List Int), Ch.ro n0 (Sl (some ⟨b44, 0, none⟩) ([-1, 16] : List Int) 2) ([-1, 16] : List Int), Ch.ro 0 (Sl a17 r14.2.1 c18) r14.2.1, Ch.bx n0 b11 0 [(I r3.1.1), (Sl a6 r3.1.2.1 c7), (I r3.1.2.2)] [] [], Ch.own n0 n0 (Sl a6 r3.1.2.1 c7) r3.1.2.1, Ch.bx n0 b1 0 [(I 0), (.slice none 0 0), (I 0)] [] []] := H
     replace H : Hp S0 σ0 σ53 [Ch.bx lor_0 br_0 or_0 [(Sl a51 r48.2.1 c52), (I r48.2.2)] prer_0 sufr_0, Ch.ro 0 (Sl a51 r48.2.1 c52) r48.2.1, Ch.bx n0 b11 0 [(I r3.1.1), (Sl a6 r3.1.2.1 c7), (I r3.1.2.2)] [] [], Ch.own n0 n0 (Sl a6 r3.1.2.1 c7) r3.1.2.1, Ch.bx n0 b1 0 [(I 0), (.slice none 0 0), (I 0)] [] []] := H.sel' [0, 1, 5, 6, 7] rfl rfl
     refine st (v := (pt b11 2)) (rv_fieldAddr (off := 2) (ft := 3) Try.underlying32 rfl ti3 rfl rfl) ?_
     refine st_exS (ex_store_box (k := 2) (cs := [(I r3.1.1), (Sl a6 r3.1.2.1 c7), (I r3.1.2.2)]) (vs := [(I r48.1)]) (cs' := [(I r3.1.1), (Sl a6 r3.1.2.1 c7), (I r48.1)]) H (i := 2) rfl ti3 rfl rfl rfl rfl rfl (Nat.le_of_ble_eq_true rfl) (by simp [plain]) rfl) wn ?_
     rintro σ54 ⟨H, -⟩
     refine w_end ?_
     refine q_blk ?_
     obtain rfl := Option.some.inj h
     exact ⟨rfl, _, σ54, a51, c52, a6, c7, fr_join ⟨rfl, rfl, rfl, trivial⟩, rfl, H.sel' [1, 2, 0, 3, 4] rfl rfl⟩
    ·replace h := bif_f hb43 h
     refine c_skip ?_
     refine q_blk ?_
     obtain rfl := Option.some.inj h
     exact ⟨rfl, _, σ19, a17, c18, a6, c7, fr_join ⟨rfl, rfl, rfl, trivial⟩, rfl, H.sel' [0, 1, 2, 3, 5] rfl rfl⟩
 ·clear hj
  have h := h'
  clear h' H
  rintro e a w ⟨rfl, ρ, σ55, a56, c57, a58, c59, rfl, rfl, H⟩
  refine q_then ?_
  refine c_seq ?_
  refine rg ?_
  have hc60 := H.cells 2 rfl
  refine st (v := (.agg #[(I o20.2.1), (Sl a58 o20.2.2.1 c59), (I o20.2.2.2)])) (rv_load (cs := [(I o20.2.1), (Sl a58 o20.2.2.1 c59), (I o20.2.2.2)]) Try.underlying32 rfl ti32 rfl rfl hc60) ?_
  refine st_exS (ex_store_box (k := 0) (cs := [(I 0), (.slice none 0 0), (I 0)]) (vs := [(I o20.2.1), (Sl a58 o20.2.2.1 c59), (I o20.2.2.2)]) (cs' := [(I o20.2.1), (Sl a58 o20.2.2.1 c59), (I o20.2.2.2)]) H (i := 4) rfl ti32 rfl rfl rfl rfl rfl (Nat.le_of_ble_eq_true rfl) (by simp [plain]) rfl) wn ?_
  rintro σ61 ⟨H, -⟩
  refine w_end ?_
  refine q_then ?_
  refine c_ret ?_
  obtain rfl := Option.some.inj h
  exact fin_ret (v := (.agg #[(I o20.2.1), (Sl a58 o20.2.2.1 c59), (I o20.2.2.2)])) (results_ok Try.results101 (res_cell rfl (run_cellRes (cs := [(I o20.2.1), (Sl a58 o20.2.2.1 c59), (I o20.2.2.2)]) Try.underlying32 rfl ti32 rfl (H.cells 0 rfl)) res_nil) rfl) ⟨a58, c59, a56, c57, rfl, rfl⟩ (H.sel' [4, 1, 2] rfl rfl)

theorem c_spec_anyStore {r_0 : (List UInt8) × Int} {ar_0_0 : Option Addr} {cr_0_0 : Nat} {lor_0 br_0 or_0 : Nat} {prer_0 sufr_0 : List Value} {r : (List (Int × (List Int) × Int)) × ((List UInt8) × Int)} (h : M.spec_anyStore r_0 = some r) :
    Cal2 Try.prog 67 [(pt br_0 or_0)] [Ch.bx lor_0 br_0 or_0 [(Sl ar_0_0 r_0.1 cr_0_0), (I r_0.2)] prer_0 sufr_0, Ch.ro 0 (Sl ar_0_0 r_0.1 cr_0_0) r_0.1] (fun n0 v L => ∃ (az1 : Option Addr), ∃ (cz2 : Nat), ∃ (az3 : Option Addr), ∃ (cz4 : Nat), v = (Sl az1 r.1 cz2) ∧ L = [Ch.own n0 n0 (Sl az1 r.1 cz2) r.1, Ch.bx lor_0 br_0 or_0 [(Sl az3 r.2.1 cz4), (I r.2.2)] prer_0 sufr_0, Ch.ro 0 (Sl az3 r.2.1 cz4) r.2.1]) := by
 refine cal2 (n := 30) Try.func67 rfl rfl rfl rfl ?_
 intro S0 σ0 n0 hn0 H
 unfold M.spec_anyStore at h
 refine c_seq ?_
 refine rg ?_
 refine st (v := (.slice none 0 0)) (rv_assign rfl) ?_
 refine w_end ?_
 refine q_then ?_
 refine c_seq ?_
 refine rg ?_
 refine st (v := (pt br_0 or_0)) (rv_move rfl) ?_
 obtain ⟨r1, hx2, h'⟩ := bind_some h
 clear h
 have h := h'; clear h'
 have hc3 := c_spec_someStore (lor_0 := lor_0) (br_0 := br_0) (or_0 := or_0) (prer_0 := prer_0) (sufr_0 := sufr_0) (ar_0_0 := ar_0_0) (cr_0_0 := cr_0_0) hx2
 refine st_call (cx_call hc3 (ent_f hc3.fn rfl) hn0 (show Hp S0 σ0 _ ([Ch.bx lor_0 br_0 or_0 [(Sl ar_0_0 r_0.1 cr_0_0), (I r_0.2)] prer_0 sufr_0, Ch.ro 0 (Sl ar_0_0 r_0.1 cr_0_0) r_0.1] ++ [Ch.ro 0 (Sl ar_0_0 r_0.1 cr_0_0) r_0.1]) from (H.sel' [0, 1, 1] rfl rfl))) wn ?_
 rintro _ σ8 ⟨_, ⟨a4, c5, a6, c7, rfl, rfl⟩, H, -⟩
 replace H : Hp S0 σ0 σ8 [Ch.own n0 n0 (Sl a4 r1.1 c5) r1.1, Ch.bx lor_0 br_0 or_0 [(Sl a6 r1.2.1 c7), (I r1.2.2)] prer_0 sufr_0, Ch.ro 0 (Sl a6 r1.2.1 c7) r1.2.1, Ch.ro 0 (Sl ar_0_0 r_0.1 cr_0_0) r_0.1] := H
 refine st (v := (Sl a4 r1.1 c5)) (rv_assign rfl) ?_
 refine w_end ?_
 refine q_then ?_
 refine c_seq ?_
 refine c_seq ?_
 refine rg ?_
 refine st (v := (pt br_0 or_0)) (rv_move rfl) ?_
 obtain ⟨r9, hx10, h'⟩ := bind_some h
 clear h
 have h := h'; clear h'
 have hc11 := c_spec_reader_pick (lor_0 := lor_0) (br_0 := br_0) (or_0 := or_0) (prer_0 := prer_0) (sufr_0 := sufr_0) (ar_0_0 := a6) (cr_0_0 := c7) hx10
 refine st_call (cx_call hc11 (ent_f hc11.fn rfl) hn0 (show Hp S0 σ0 _ ([Ch.bx lor_0 br_0 or_0 [(Sl a6 r1.2.1 c7), (I r1.2.2)] prer_0 sufr_0, Ch.ro 0 (Sl a6 r1.2.1 c7) r1.2.1] ++ [Ch.own n0 n0 (Sl a4 r1.1 c5) r1.1, Ch.ro 0 (Sl a6 r1.2.1 c7) r1.2.1, Ch.ro 0 (Sl ar_0_0 r_0.1 cr_0_0) r_0.1]) from (H.sel' [1, 2, 0, 2, 3] rfl rfl))) wn ?_
 rintro _ σ14 ⟨_, ⟨a12, c13, rfl, rfl⟩, H, -⟩
 replace H : Hp S0 σ0 σ14 [Ch.bx lor_0 br_0 or_0 [(Sl a12 r9.2.1 c13), (I r9.2.2)] prer_0 sufr_0, Ch.ro 0 (Sl a12 r9.2.1 c13) r9.2.1, Ch.own n0 n0 (Sl a4 r1.1 c5) r1.1, Ch.ro 0 (Sl a6 r1.2.1 c7) r1.2.1, Ch.ro 0 (Sl ar_0_0 r_0.1 cr_0_0) r_0.1] := H
 refine w_end ?_
 refine q_then ?_
 obtain ⟨o15, hj, h'⟩ := bind_some h
 clear h
 refine c_cut (fun e a w => e = .normal ∧ ∃ (ρ : Nat → Value) (σ : St) (aj1 : Option Addr) (cj2 : Nat) (aj3 : Option Addr) (cj4 : Nat), a = fr 30 (updL ρ [(0, (pt br_0 or_0)), (3, (Sl aj3 o15.2 cj4))]) ∧ w = σ.w ∧ Hp S0 σ0 σ [Ch.bx lor_0 br_0 or_0 [(Sl aj1 o15.1.1 cj2), (I o15.1.2)] prer_0 sufr_0, Ch.ro 0 (Sl aj1 o15.1.1 cj2) o15.1.1, Ch.own n0 n0 (Sl aj3 o15.2 cj4) o15.2]) ?_ ?_
 ·clear h'
  rename _ = some o15 => h
  refine c_blk ?_
  refine c_seq ?_
  refine rg ?_
  refine st (v := (B (r9.1 == 0))) (rv_eql (a := r9.1) (b := 0) rfl rfl) ?_
  refine st (v := (B (r9.1 == 0))) (rv_assign rfl) ?_
  refine w_end ?_
  refine q_then ?_
  refine cd_cond (r9.1 == 0) rfl (fun hb16 => ?_) (fun hb16 => ?_)
  ·replace h := bif_t hb16 h
   refine rg ?_
   refine st (v := (Sl a4 r1.1 c5)) (rv_move rfl) ?_
   refine st (v := (pt br_0 or_0)) (rv_move rfl) ?_
   obtain ⟨r17, hx18, h'⟩ := bind_some h
   clear h
   have h := h'; clear h'
   have hc19 := c_spec_anyItem (lor_0 := lor_0) (br_0 := br_0) (or_0 := or_0) (prer_0 := prer_0) (sufr_0 := sufr_0) (ar_0_0 := a12) (cr_0_0 := c13) hx18
   refine st_call (cx_call hc19 (ent_f hc19.fn rfl) hn0 (show Hp S0 σ0 _ ([Ch.bx lor_0 br_0 or_0 [(Sl a12 r9.2.1 c13), (I r9.2.2)] prer_0 sufr_0, Ch.ro 0 (Sl a12 r9.2.1 c13) r9.2.1] ++ [Ch.ro 0 (Sl a12 r9.2.1 c13) r9.2.1, Ch.own n0 n0 (Sl a4 r1.1 c5) r1.1, Ch.ro 0 (Sl a6 r1.2.1 c7) r1.2.1, Ch.ro 0 (Sl ar_0_0 r_0.1 cr_0_0) r_0.1]) from (H.sel' [0, 1, 1, 2, 3, 4] rfl rfl))) wn ?_
   rintro _ σ24 ⟨_, ⟨a20, c21, a22, c23, rfl, rfl⟩, H, -⟩
   replace H : Hp S0 σ0 σ24 [Ch.own n0 n0 (Sl a20 r17.1.2.1 c21) r17.1.2.1, Ch.bx lor_0 br_0 or_0 [(Sl a22 r17.2.1 c23), (I r17.2.2)] prer_0 sufr_0, Ch.ro 0 (Sl a22 r17.2.1 c23) r17.2.1, Ch.ro 0 (Sl a12 r9.2.1 c13) r9.2.1, Ch.own n0 n0 (Sl a4 r1.1 c5) r1.1, Ch.ro 0 (Sl a6 r1.2.1 c7) r1.2.1, Ch.ro 0 (Sl ar_0_0 r_0.1 cr_0_0) r_0.1] := H
   obtain ⟨σ25, hw26, H, -⟩ := H.pub 0 rfl (Nat.le_refl _)
   rw [← hw26]; clear hw26
   refine st_ex (ex_buildSlice (el := n0) (xs := ([(r17.1.1, r17.1.2.1, r17.1.2.2)] : List (Int × (List Int) × Int))) (ps := [(0, (.agg #[(I r17.1.1), (Sl a20 r17.1.2.1 c21), (I r17.1.2.2)]))]) (cs := [(I r17.1.1), (Sl a20 r17.1.2.1 c21), (I r17.1.2.2)]) H hn0 Try.underlying24 ti32 rfl rfl (by kernel_rfl) (.cons (c := [(I r17.1.1), (Sl a20 r17.1.2.1 c21), (I r17.1.2.2)]) ⟨[(I r17.1.1)], [(Sl a20 r17.1.2.1 c21), (I r17.1.2.2)], rfl, rfl, ⟨[(Sl a20 r17.1.2.1 c21)], [(I r17.1.2.2)], rfl, ⟨_, rfl, (H.ro 0 rfl)⟩, rfl⟩⟩ (.nil)) rfl) wn ?_
   rintro _ σ28 ⟨b27, rfl, H, -⟩
   replace H : Hp S0 σ0 σ28 [Ch.own n0 n0 (Sl (some ⟨b27, 0, none⟩) ([(r17.1.1, r17.1.2.1, r17.1.2.2)] : List (Int × (List Int) × Int)) 1) ([(r17.1.1, r17.1.2.1, r17.1.2.2)] : List (Int × (List Int) × Int)), Ch.bx lor_0 br_0 or_0 [(Sl a22 r17.2.1 c23), (I r17.2.2)] prer_0 sufr_0, Ch.ro 0 (Sl a22 r17.2.1 c23) r17.2.1, Ch.own n0 n0 (Sl a4 r1.1 c5) r1.1] := H.sel' [0, 2, 3, 5] rfl rfl
   obtain ⟨xs29, hx30, h'⟩ := bind_some h
   clear h
   have h := h'; clear h'
   refine st_ex (ex_append H (i := 3) rfl Try.underlying24 Try.underlying24 ti32 rfl rfl (by decide) (H.own 0 rfl).rd hx30 hn0 rfl rfl) wn ?_
   rintro _ σ33 ⟨a31, c32, rfl, H, -⟩
   refine st (v := (Sl a31 xs29 c32)) (rv_assign rfl) ?_
   refine w_end ?_
   refine q_blk ?_
   obtain rfl := Option.some.inj h
   exact ⟨rfl, _, σ33, a22, c23, a31, c32, fr_join ⟨rfl, rfl, trivial⟩, rfl, H.sel' [2, 3, 0] rfl rfl⟩
  ·replace h := bif_f hb16 h
   refine c_seq ?_
   refine rg ?_
   refine st (v := (B (r9.1 == 1))) (rv_eql (a := r9.1) (b := 1) rfl rfl) ?_
   refine st (v := (B (r9.1 == 1))) (rv_assign rfl) ?_
   refine w_end ?_
   refine q_then ?_
   refine cd_cond (r9.1 == 1) rfl (fun hb34 => ?_) (fun hb34 => ?_)
   ·replace h := bif_t hb34 h
    refine c_seq ?_
    refine rg ?_
    refine st (v := (Sl a4 r1.1 c5)) (rv_move rfl) ?_
    refine st (v := (I (r1.1.length : Int))) (rv_len Try.underlying24 rfl) ?_
    refine st (v := (B (decide (0 < (r1.1.length : Int))))) (rv_gtr (a := (r1.1.length : Int)) (b := 0) rfl rfl) ?_
    refine w_end ?_
    refine q_then ?_
    refine cd_cond (decide (0 < (r1.1.length : Int))) rfl (fun hb35 => ?_) (fun hb35 => ?_)
    ·replace h := bif_t hb35 h
     refine rg ?_
     refine st (v := (Sl a4 r1.1 c5)) (rv_move rfl) ?_
     refine st (v := (pt br_0 or_0)) (rv_move rfl) ?_
     refine st (v := (Sl a4 r1.1 c5)) (rv_move rfl) ?_
     refine st (v := (I (r1.1.length : Int))) (rv_len Try.underlying24 rfl) ?_
     obtain ⟨r36, hx37, h'⟩ := bind_some h
     clear h
     have h := h'; clear h'
     have hc38 := c_spec_reader_pick (lor_0 := lor_0) (br_0 := br_0) (or_0 := or_0) (prer_0 := prer_0) (sufr_0 := sufr_0) (ar_0_0 := a12) (cr_0_0 := c13) hx37
     refine st_call (cx_call hc38 (ent_f hc38.fn rfl) hn0 (show Hp S0 σ0 _ ([Ch.bx lor_0 br_0 or_0 [(Sl a12 r9.2.1 c13), (I r9.2.2)] prer_0 sufr_0, Ch.ro 0 (Sl a12 r9.2.1 c13) r9.2.1] ++ [Ch.ro 0 (Sl a12 r9.2.1 c13) r9.2.1, Ch.own n0 n0 (Sl a4 r1.1 c5) r1.1, Ch.ro 0 (Sl a6 r1.2.1 c7) r1.2.1, Ch.ro 0 (Sl ar_0_0 r_0.1 cr_0_0) r_0.1]) from (H.sel' [0, 1, 1, 2, 3, 4] rfl rfl))) wn ?_
     rintro _ σ41 ⟨_, ⟨a39, c40, rfl, rfl⟩, H, -⟩
     replace H : Hp S0 σ0 σ41 [Ch.bx lor_0 br_0 or_0 [(Sl a39 r36.2.1 c40), (I r36.2.2)] prer_0 sufr_0, Ch.ro 0 (Sl a39 r36.2.1 c40) r36.2.1, Ch.ro 0 (Sl a12 r9.2.1 c13) r9.2.1, Ch.own n0 n0 (Sl a4 r1.1 c5) r1.1, Ch.ro 0 (Sl a6 r1.2.1 c7) r1.2.1, Ch.ro 0 (Sl ar_0_0 r_0.1 cr_0_0) r_0.1] := H
     refine st (v := (pt br_0 or_0)) (rv_move rfl) ?_
     obtain ⟨r42, hx43, h'⟩ := bind_some h
     clear h
     have h := h'; clear h'
     have hc44 := c_spec_anyVector (lor_0 := lor_0) (br_0 := br_0) (or_0 := or_0) (prer_0 := prer_0) (sufr_0 := sufr_0) (ar_0_0 := a39) (cr_0_0 := c40) hx43
     refine st_call (cx_call hc44 (ent_f hc44.fn rfl) hn0 (show Hp S0 σ0 _ ([Ch.bx lor_0 br_0 or_0 [(Sl a39 r36.2.1 c40), (I r36.2.2)] prer_0 sufr_0, Ch.ro 0 (Sl a39 r36.2.1 c40) r36.2.1] ++ [Ch.ro 0 (Sl a39 r36.2.1 c40) r36.2.1, Ch.ro 0 (Sl a12 r9.2.1 c13) r9.2.1, Ch.own n0 n0 (Sl a4 r1.1 c5) r1.1, Ch.ro 0 (Sl a6 r1.2.1 c7) r1.2.1, Ch.ro 0 (Sl ar_0_0 r_0.1 cr_0_0) r_0.1]) from (H.sel' [0, 1, 1, 2, 3, 4, 5] rfl rfl))) wn ?_
     rintro _ σ49 ⟨_, ⟨a45, c46, a47, c48, rfl, rfl⟩, H, -⟩
     replace H : Hp S0 σ0 σ49 [Ch.own n0 n0 (Sl a45 r42.1 c46) r42.1, Ch.bx lor_0 br_0 or_0 [(Sl a47 r42.2.1 c48), (I r42.2.2)] prer_0 sufr_0, Ch.ro 0 (Sl a47 r42.2.1 c48) r42.2.1, Ch.ro 0 (Sl a39 r36.2.1 c40) r36.2.1, Ch.ro 0 (Sl a12 r9.2.1 c13) r9.2.1, Ch.own n0 n0 (Sl a4 r1.1 c5) r1.1, Ch.ro 0 (Sl a6 r1.2.1 c7) r1.2.1, Ch.ro 0 (Sl ar_0_0 r_0.1 cr_0_0) r_0.1] := H
     replace H : Hp S0 σ0 σ49 [Ch.own n0 n0 (Sl a45 r42.1 c46) r42.1, Ch.bx lor_0 br_0 or_0 [(Sl a47 r42.2.1 c48), (I r42.2.2)] prer_0 sufr_0, Ch.ro 0 (Sl a47 r42.2.1 c48) r42.2.1, Ch.own n0 n0 (Sl a4 r1.1 c5) r1.1] := H.sel' [0, 1, 2, 5] rfl rfl
     obtain ⟨x50, hx51, h'⟩ := bind_some h
     clear h
     have h := h'; clear h'
     obtain ⟨b53, o54, hi52, -⟩ := (H.own 3 rfl).ix hx51
     refine st (v := (pt b53 o54)) (rv_ix Try.underlying24 ti32 rfl rfl hi52) ?_
     refine st (v := (pt b53 (o54 + 1))) (rv_fieldAddr (off := 1) (ft := 29) Try.underlying32 rfl ti29 rfl rfl) ?_
     obtain ⟨σ55, hw56, H, -⟩ := H.pub 0 rfl (Nat.le_refl _)
     rw [← hw56]; clear hw56
     refine st_exS (ex_store_own (e' := (x50.1, r42.1, x50.2.2)) (vs := [(Sl a45 r42.1 c46)]) (k := 1) H (i := 3) rfl ti29 hx51 hi52 rfl rfl rfl rfl rfl (Nat.le_of_ble_eq_true rfl) (by simp [plain]) (by rintro _ ⟨_, _, rfl, rfl, ⟨_, _, rfl, ⟨_, rfl, hR59⟩, rfl⟩⟩; exact ⟨[(I x50.1)], [(Sl a45 r42.1 c46), (I x50.2.2)], rfl, rfl, ⟨[(Sl a45 r42.1 c46)], [(I x50.2.2)], rfl, ⟨_, rfl, (H.ro 0 rfl)⟩, rfl⟩⟩)) wn ?_
     rintro σ60 ⟨H, -⟩
     have hsl : (Sl a4 r1.1 c5) = (Sl a4 (r1.1.set r36.1.toNat (x50.1, r42.1, x50.2.2)) c5) := sl_len List.length_set.symm
     rw [hsl]; rw [hsl] at H; clear hsl
     refine w_end ?_
     refine q_blk ?_
     obtain rfl := Option.some.inj h
     exact ⟨rfl, _, σ60, a47, c48, a4, c5, fr_join ⟨rfl, rfl, trivial⟩, rfl, H.sel' [2, 3, 0] rfl rfl⟩
    ·replace h := bif_f hb35 h
     refine c_skip ?_
     refine q_blk ?_
     obtain rfl := Option.some.inj h
     exact ⟨rfl, _, σ14, a12, c13, a4, c5, fr_join ⟨rfl, rfl, trivial⟩, rfl, H.sel' [0, 1, 2] rfl rfl⟩
   ·replace h := bif_f hb34 h
    refine c_skip ?_
    refine q_blk ?_
    obtain rfl := Option.some.inj h
    exact ⟨rfl, _, σ14, a12, c13, a4, c5, fr_join ⟨rfl, rfl, trivial⟩, rfl, H.sel' [0, 1, 2] rfl rfl⟩
 ·clear hj
  have h := h'
  clear h' H
  rintro e a w ⟨rfl, ρ, σ61, a62, c63, a64, c65, rfl, rfl, H⟩
  refine q_then ?_
  refine c_seq ?_
  refine rg ?_
  refine st (v := (Sl a64 o15.2 c65)) (rv_move rfl) ?_
  refine st (v := (Sl a64 o15.2 c65)) (rv_assign rfl) ?_
  refine w_end ?_
  refine q_then ?_
  refine c_ret ?_
  obtain rfl := Option.some.inj h
  exact fin_ret (v := (Sl a64 o15.2 c65)) (results_ok Try.results67 (res_tmp (v := (Sl a64 o15.2 c65)) rfl res_nil) rfl) ⟨a64, c65, a62, c63, rfl, rfl⟩ (H.sel' [2, 0, 1] rfl rfl)

theorem c_spec_someK {r_0 : (List UInt8) × Int} {ar_0_0 : Option Addr} {cr_0_0 : Nat} {lor_0 br_0 or_0 : Nat} {prer_0 sufr_0 : List Value} {r : Int × ((List UInt8) × Int)} (h : M.spec_someK r_0 = some r) :
    Cal2 Try.prog 93 [(pt br_0 or_0)] [Ch.bx lor_0 br_0 or_0 [(Sl ar_0_0 r_0.1 cr_0_0), (I r_0.2)] prer_0 sufr_0, Ch.ro 0 (Sl ar_0_0 r_0.1 cr_0_0) r_0.1] (fun n0 v L => ∃ (az1 : Option Addr), ∃ (cz2 : Nat), v = (I r.1) ∧ L = [Ch.bx lor_0 br_0 or_0 [(Sl az1 r.2.1 cz2), (I r.2.2)] prer_0 sufr_0, Ch.ro 0 (Sl az1 r.2.1 cz2) r.2.1]) := by
 refine cal2 (n := 6) Try.func93 rfl rfl rfl rfl ?_
 intro S0 σ0 n0 hn0 H
 unfold M.spec_someK at h
 refine c_seq ?_
 refine rg ?_
 refine st (v := (I 0)) (rv_assign rfl) ?_
 refine w_end ?_
 refine q_then ?_
 refine c_seq ?_
 refine rg ?_
 refine st (v := (pt br_0 or_0)) (rv_move rfl) ?_
 refine st_ex (ex_buildSlice (el := n0) (xs := ([1, 2, 3, 5, 16, 4, 0, 17] : List Int)) (ps := [(0, (I 1)), (1, (I 2)), (2, (I 3)), (3, (I 5)), (4, (I 16)), (5, (I 4)), (6, (I 0)), (7, (I 17))]) (cs := [(I 1), (I 2), (I 3), (I 5), (I 16), (I 4), (I 0), (I 17)]) H hn0 Try.underlying29 ti3 rfl rfl (by kernel_rfl) (.cons (c := [(I 1)]) rfl (.cons (c := [(I 2)]) rfl (.cons (c := [(I 3)]) rfl (.cons (c := [(I 5)]) rfl (.cons (c := [(I 16)]) rfl (.cons (c := [(I 4)]) rfl (.cons (c := [(I 0)]) rfl (.cons (c := [(I 17)]) rfl (.nil))))))))) rfl) wn ?_
 rintro _ σ2 ⟨b1, rfl, H, -⟩
 obtain ⟨σ3, hw4, H, -⟩ := H.pub 0 rfl (Nat.le_refl _)
 rw [← hw4]; clear hw4
 replace H := H.roLow 0 0 rfl (Nat.zero_le _)
 obtain ⟨r5, hx6, h'⟩ := bind_some h
 clear h
 have h := h'; clear h'
 have hc7 := c_spec_reader_one (lor_0 := lor_0) (br_0 := br_0) (or_0 := or_0) (prer_0 := prer_0) (sufr_0 := sufr_0) (ar_0_0 := ar_0_0) (cr_0_0 := cr_0_0) (alist_1 := (some ⟨b1, 0, none⟩)) (clist_1 := 8) hx6
 refine st_call (cx_call hc7 (ent_f hc7.fn rfl) hn0 (show Hp S0 σ0 _ ([Ch.bx lor_0 br_0 or_0 [(Sl ar_0_0 r_0.1 cr_0_0), (I r_0.2)] prer_0 sufr_0, Ch.ro 0 (Sl ar_0_0 r_0.1 cr_0_0) r_0.1, Ch.ro 0 (Sl (some ⟨b1, 0, none⟩) ([1, 2, 3, 5, 16, 4, 0, 17] : List Int) 8) ([1, 2, 3, 5, 16, 4, 0, 17] : List Int)] ++ [Ch.ro 0 (Sl (some ⟨b1, 0, none⟩) ([1, 2, 3, 5, 16, 4, 0, 17] : List Int) 8) ([1, 2, 3, 5, 16, 4, 0, 17] : List Int), Ch.ro n0 (Sl (some ⟨b1, 0, none⟩) ([1, 2, 3, 5, 16, 4, 0, 17] : List Int) 8) ([1, 2, 3, 5, 16, 4, 0, 17] : List Int), Ch.ro 0 (Sl ar_0_0 r_0.1 cr_0_0) r_0.1]) from (H.sel' [2, 3, 0, 0, 1, 3] rfl rfl))) wn ?_
 rintro _ σ10 ⟨_, ⟨a8, c9, rfl, rfl⟩, H, -⟩
 replace H : Hp S0 σ0 σ10 [Ch.bx lor_0 br_0 or_0 [(Sl a8 r5.2.1 c9), (I r5.2.2)] prer_0 sufr_0, Ch.ro 0 (Sl a8 r5.2.1 c9) r5.2.1, Ch.ro 0 (Sl (some ⟨b1, 0, none⟩) ([1, 2, 3, 5, 16, 4, 0, 17] : List Int) 8) ([1, 2, 3, 5, 16, 4, 0, 17] : List Int), Ch.ro n0 (Sl (some ⟨b1, 0, none⟩) ([1, 2, 3, 5, 16, 4, 0, 17] : List Int) 8) ([1, 2, 3, 5, 16, 4, 0, 17] : List Int), Ch.ro 0 (Sl ar_0_0 r_0.1 cr_0_0) r_0.1] := H
 refine st (v := (I r5.1)) (rv_assign rfl) ?_
 refine w_end ?_
 refine q_then ?_
 refine c_ret ?_
 obtain rfl := Option.some.inj h
 exact fin_ret (v := (I r5.1)) (results_ok Try.results93 (res_tmp (v := (I r5.1)) rfl res_nil) rfl) ⟨a8, c9, rfl, rfl⟩ (H.sel' [0, 1] rfl rfl)

theorem c_spec_DrawProbeNearest {code_0 : List UInt8} {acode_0 : Option Addr} {ccode_0 : Nat} {r : (List (List Int)) × (List (Int × (List Int) × Int)) × (List Int) × Int × Int} (h : M.spec_DrawProbeNearest code_0 = some r) :
    Cal2 Try.prog 53 [(Sl acode_0 code_0 ccode_0)] [Ch.ro 0 (Sl acode_0 code_0 ccode_0) code_0] (fun n0 v L => ∃ (az1 : Option Addr), ∃ (cz2 : Nat), ∃ (az3 : Option Addr), ∃ (cz4 : Nat), ∃ (az5 : Option Addr), ∃ (cz6 : Nat), v = (.tuple #[(Sl az1 r.1 cz2), (Sl az3 r.2.1 cz4), (Sl az5 r.2.2.1 cz6), (I r.2.2.2.1), (I r.2.2.2.2)]) ∧ L = [Ch.own n0 n0 (Sl az1 r.1 cz2) r.1, Ch.own n0 n0 (Sl az3 r.2.1 cz4) r.2.1, Ch.own n0 n0 (Sl az5 r.2.2.1 cz6) r.2.2.1]) := by
 refine cal2 (n := 29) Try.func53 rfl rfl rfl rfl ?_
 intro S0 σ0 n0 hn0 H
 unfold M.spec_DrawProbeNearest at h
 refine c_seq ?_
 refine rg ?_
 refine st (v := (.slice none 0 0)) (rv_assign rfl) ?_
 refine st (v := (.slice none 0 0)) (rv_assign rfl) ?_
 refine st (v := (.slice none 0 0)) (rv_assign rfl) ?_
 refine st (v := (I 0)) (rv_assign rfl) ?_
 refine st (v := (I 0)) (rv_assign rfl) ?_
 refine w_end ?_
 refine q_then ?_
 refine c_seq ?_
 refine rg ?_
 refine st (v := (Sl acode_0 code_0 ccode_0)) (rv_move rfl) ?_
 obtain ⟨r1, hx2, h'⟩ := bind_some h
 clear h
 have h := h'; clear h'
 have hc3 := c_spec_newReader (acode_0 := acode_0) (ccode_0 := ccode_0) hx2
 refine st_call (cx_call hc3 (ent_f hc3.fn rfl) hn0 (show Hp S0 σ0 _ ([Ch.ro 0 (Sl acode_0 code_0 ccode_0) code_0] ++ [Ch.ro 0 (Sl acode_0 code_0 ccode_0) code_0]) from (H.sel' [0, 0] rfl rfl))) wn ?_
 rintro _ σ7 ⟨_, ⟨b4, a5, c6, rfl, rfl⟩, H, -⟩
 replace H : Hp S0 σ0 σ7 [Ch.bx n0 b4 0 [(Sl a5 r1.1 c6), (I r1.2)] [] [], Ch.ro 0 (Sl a5 r1.1 c6) r1.1, Ch.ro 0 (Sl acode_0 code_0 ccode_0) code_0] := H
 refine st (v := (pt b4 0)) (rv_assign rfl) ?_
 refine w_end ?_
 refine q_then ?_
 refine c_seq ?_
 refine rg ?_
 refine st (v := (pt b4 0)) (rv_move rfl) ?_
 obtain ⟨r8, hx9, h'⟩ := bind_some h
 clear h
 have h := h'; clear h'
 have hc10 := c_spec_anyCentres (lor_0 := n0) (br_0 := b4) (or_0 := 0) (prer_0 := []) (sufr_0 := []) (ar_0_0 := a5) (cr_0_0 := c6) hx9
 refine st_call (cx_call hc10 (ent_f hc10.fn rfl) hn0 (show Hp S0 σ0 _ ([Ch.bx n0 b4 0 [(Sl a5 r1.1 c6), (I r1.2)] [] [], Ch.ro 0 (Sl a5 r1.1 c6) r1.1] ++ [Ch.ro 0 (Sl a5 r1.1 c6) r1.1, Ch.ro 0 (Sl acode_0 code_0 ccode_0) code_0]) from (H.sel' [0, 1, 1, 2] rfl rfl))) wn ?_
 rintro _ σ15 ⟨_, ⟨a11, c12, a13, c14, rfl, rfl⟩, H, -⟩
 replace H : Hp S0 σ0 σ15 [Ch.own n0 n0 (Sl a11 r8.1 c12) r8.1, Ch.bx n0 b4 0 [(Sl a13 r8.2.1 c14), (I r8.2.2)] [] [], Ch.ro 0 (Sl a13 r8.2.1 c14) r8.2.1, Ch.ro 0 (Sl a5 r1.1 c6) r1.1, Ch.ro 0 (Sl acode_0 code_0 ccode_0) code_0] := H
 refine st (v := (Sl a11 r8.1 c12)) (rv_assign rfl) ?_
 refine w_end ?_
 refine q_then ?_
 refine c_seq ?_
 refine rg ?_
 refine st (v := (pt b4 0)) (rv_move rfl) ?_
 obtain ⟨r16, hx17, h'⟩ := bind_some h
 clear h
 have h := h'; clear h'
 have hc18 := c_spec_anyStore (lor_0 := n0) (br_0 := b4) (or_0 := 0) (prer_0 := []) (sufr_0 := []) (ar_0_0 := a13) (cr_0_0 := c14) hx17
 refine st_call (cx_call hc18 (ent_f hc18.fn rfl) hn0 (show Hp S0 σ0 _ ([Ch.bx n0 b4 0 [(Sl a13 r8.2.1 c14), (I r8.2.2)] [] [], Ch.ro 0 (Sl a13 r8.2.1 c14) r8.2.1] ++ [Ch.own n0 n0 (Sl a11 r8.1 c12) r8.1, Ch.ro 0 (Sl a13 r8.2.1 c14) r8.2.1, Ch.ro 0 (Sl a5 r1.1 c6) r1.1, Ch.ro 0 (Sl acode_0 code_0 ccode_0) code_0]) from (H.sel' [1, 2, 0, 2, 3, 4] rfl rfl))) wn ?_
 rintro _ σ23 ⟨_, ⟨a19, c20, a21, c22, rfl, rfl⟩, H, -⟩
 replace H : Hp S0 σ0 σ23 [Ch.own n0 n0 (Sl a19 r16.1 c20) r16.1, Ch.bx n0 b4 0 [(Sl a21 r16.2.1 c22), (I r16.2.2)] [] [], Ch.ro 0 (Sl a21 r16.2.1 c22) r16.2.1, Ch.own n0 n0 (Sl a11 r8.1 c12) r8.1, Ch.ro 0 (Sl a13 r8.2.1 c14) r8.2.1, Ch.ro 0 (Sl a5 r1.1 c6) r1.1, Ch.ro 0 (Sl acode_0 code_0 ccode_0) code_0] := H
 refine st (v := (Sl a19 r16.1 c20)) (rv_assign rfl) ?_
 refine w_end ?_
 refine q_then ?_
 refine c_seq ?_
 refine rg ?_
 refine st (v := (pt b4 0)) (rv_move rfl) ?_
 obtain ⟨r24, hx25, h'⟩ := bind_some h
 clear h
 have h := h'; clear h'
 have hc26 := c_spec_anyVector (lor_0 := n0) (br_0 := b4) (or_0 := 0) (prer_0 := []) (sufr_0 := []) (ar_0_0 := a21) (cr_0_0 := c22) hx25
 refine st_call (cx_call hc26 (ent_f hc26.fn rfl) hn0 (show Hp S0 σ0 _ ([Ch.bx n0 b4 0 [(Sl a21 r16.2.1 c22), (I r16.2.2)] [] [], Ch.ro 0 (Sl a21 r16.2.1 c22) r16.2.1] ++ [Ch.own n0 n0 (Sl a19 r16.1 c20) r16.1, Ch.ro 0 (Sl a21 r16.2.1 c22) r16.2.1, Ch.own n0 n0 (Sl a11 r8.1 c12) r8.1, Ch.ro 0 (Sl a13 r8.2.1 c14) r8.2.1, Ch.ro 0 (Sl a5 r1.1 c6) r1.1, Ch.ro 0 (Sl acode_0 code_0 ccode_0) code_0]) from (H.sel' [1, 2, 0, 2, 3, 4, 5, 6] rfl rfl))) wn ?_
 rintro _ σ31 ⟨_, ⟨a27, c28, a29, c30, rfl, rfl⟩, H, -⟩
 replace H : Hp S0 σ0 σ31 [Ch.own n0 n0 (Sl a27 r24.1 c28) r24.1, Ch.bx n0 b4 0 [(Sl a29 r24.2.1 c30), (I r24.2.2)] [] [], Ch.ro 0 (Sl a29 r24.2.1 c30) r24.2.1, Ch.own n0 n0 (Sl a19 r16.1 c20) r16.1, Ch.ro 0 (Sl a21 r16.2.1 c22) r16.2.1, Ch.own n0 n0 (Sl a11 r8.1 c12) r8.1, Ch.ro 0 (Sl a13 r8.2.1 c14) r8.2.1, Ch.ro 0 (Sl a5 r1.1 c6) r1.1, Ch.ro 0 (Sl acode_0 code_0 ccode_0) code_0] := H
 replace H : Hp S0 σ0 σ31 [Ch.own n0 n0 (Sl a27 r24.1 c28) r24.1, Ch.bx n0 b4 0 [(Sl a29 r24.2.1 c30), (I r24.2.2)] [] [], Ch.ro 0 (Sl a29 r24.2.1 c30) r24.2.1, Ch.own n0 n0 (Sl a19 r16.1 c20) r16.1, Ch.own n0 n0 (Sl a11 r8.1 c12) r8.1] := H.sel' [0, 1, 2, 3, 5] rfl rfl
 refine st (v := (Sl a27 r24.1 c28)) (rv_assign rfl) ?_
 refine w_end ?_
 refine q_then ?_
 refine c_seq ?_
 refine rg ?_
 refine st (v := (pt b4 0)) (rv_move rfl) ?_
 refine st_ex (ex_buildSlice (el := n0) (xs := ([1, 2, 3, 4, 0, 5, 1] : List Int)) (ps := [(0, (I 1)), (1, (I 2)), (2, (I 3)), (3, (I 4)), (4, (I 0)), (5, (I 5)), (6, (I 1))]) (cs := [(I 1), (I 2), (I 3), (I 4), (I 0), (I 5), (I 1)]) H hn0 Try.underlying29 ti3 rfl rfl (by kernel_rfl) (.cons (c := [(I 1)]) rfl (.cons (c := [(I 2)]) rfl (.cons (c := [(I 3)]) rfl (.cons (c := [(I 4)]) rfl (.cons (c := [(I 0)]) rfl (.cons (c := [(I 5)]) rfl (.cons (c := [(I 1)]) rfl (.nil)))))))) rfl) wn ?_
 rintro _ σ33 ⟨b32, rfl, H, -⟩
 obtain ⟨σ34, hw35, H, -⟩ := H.pub 0 rfl (Nat.le_refl _)
 rw [← hw35]; clear hw35
 replace H := H.roLow 0 0 rfl (Nat.zero_le _)
 obtain ⟨r36, hx37, h'⟩ := bind_some h
 clear h
 have h := h'; clear h'
 have hc38 := c_spec_reader_one (lor_0 := n0) (br_0 := b4) (or_0 := 0) (prer_0 := []) (sufr_0 := []) (ar_0_0 := a29) (cr_0_0 := c30) (alist_1 := (some ⟨b32, 0, none⟩)) (clist_1 := 7) hx37
 refine st_call (cx_call hc38 (ent_f hc38.fn rfl) hn0 (show Hp S0 σ0 _ ([Ch.bx n0 b4 0 [(Sl a29 r24.2.1 c30), (I r24.2.2)] [] [], Ch.ro 0 (Sl a29 r24.2.1 c30) r24.2.1, Ch.ro 0 (Sl (some ⟨b32, 0, none⟩) ([1, 2, 3, 4, 0, 5, 1] : List Int) 7) ([1, 2, 3, 4, 0, 5, 1] : List Int)] ++ [Ch.ro 0 (Sl (some ⟨b32, 0, none⟩) ([1, 2, 3, 4, 0, 5, 1] : List Int) 7) ([1, 2, 3, 4, 0, 5, 1] : List Int), Ch.ro n0 (Sl (some ⟨b32, 0, none⟩) ([1, 2, 3, 4, 0, 5, 1] : List Int) 7) ([1, 2, 3, 4, 0, 5, 1] : List Int), Ch.own n0 n0 (Sl a27 r24.1 c28) r24.1, Ch.ro 0 (Sl a29 r24.2.1 c30) r24.2.1, Ch.own n0 n0 (Sl a19 r16.1 c20) r16.1, Ch.own n0 n0 (Sl a11 r8.1 c12) r8.1]) from (H.sel' [3, 4, 0, 0, 1, 2, 4, 5, 6] rfl rfl))) wn ?_
 rintro _ σ41 ⟨_, ⟨a39, c40, rfl, rfl⟩, H, -⟩
 replace H : Hp S0 σ0 σ41 [Ch.bx n0 b4 0 [(Sl a39 r36.2.1 c40), (I r36.2.2)] [] [], Ch.ro 0 (Sl a39 r36.2.1 c40) r36.2.1, Ch.ro 0 (Sl (some ⟨b32, 0, none⟩) ([1, 2, 3, 4, 0, 5, 1] : List Int) 7) ([1, 2, 3, 4, 0, 5, 1] : List Int), Ch.ro n0 (Sl (some ⟨b32, 0, none⟩) ([1, 2, 3, 4, 0, 5, 1] : List Int) 7) ([1, 2, 3, 4, 0, 5, 1] : List Int), Ch.own n0 n0 (Sl a27 r24.1 c28) r24.1, Ch.ro 0 (Sl a29 r24.2.1 c30) r24.2.1, Ch.own n0 n0 (Sl a19 r16.1 c20) r16.1, Ch.own n0 n0 (Sl a11 r8.1 c12) r8.1] := H
 replace H : Hp S0 σ0 σ41 [Ch.bx n0 b4 0 [(Sl a39 r36.2.1 c40), (I r36.2.2)] [] [], Ch.ro 0 (Sl a39 r36.2.1 c40) r36.2.1, Ch.own n0 n0 (Sl a27 r24.1 c28) r24.1, Ch.own n0 n0 (Sl a19 r16.1 c20) r16.1, Ch.own n0 n0 (Sl a11 r8.1 c12) r8.1] := H.sel' [0, 1, 4, 6, 7] rfl rfl
 refine st (v := (I r36.1)) (rv_assign rfl) ?_
 refine w_end ?_
 refine q_then ?_
 refine c_seq ?_
 refine rg ?_
 refine st (v := (Sl a11 r8.1 c12)) (rv_move rfl) ?_
 refine st (v := (Sl a19 r16.1 c20)) (rv_move rfl) ?_
 refine st (v := (Sl a27 r24.1 c28)) (rv_move rfl) ?_
 refine st (v := (I r36.1)) (rv_move rfl) ?_
 refine st (v := (pt b4 0)) (rv_move rfl) ?_
 obtain ⟨r42, hx43, h'⟩ := bind_some h
 clear h
 have h := h'; clear h'
 have hc44 := c_spec_someK (lor_0 := n0) (br_0 := b4) (or_0 := 0) (prer_0 := []) (sufr_0 := []) (ar_0_0 := a39) (cr_0_0 := c40) hx43
 refine st_call (cx_call hc44 (ent_f hc44.fn rfl) hn0 (show Hp S0 σ0 _ ([Ch.bx n0 b4 0 [(Sl a39 r36.2.1 c40), (I r36.2.2)] [] [], Ch.ro 0 (Sl a39 r36.2.1 c40) r36.2.1] ++ [Ch.ro 0 (Sl a39 r36.2.1 c40) r36.2.1, Ch.own n0 n0 (Sl a27 r24.1 c28) r24.1, Ch.own n0 n0 (Sl a19 r16.1 c20) r16.1, Ch.own n0 n0 (Sl a11 r8.1 c12) r8.1]) from (H.sel' [0, 1, 1, 2, 3, 4] rfl rfl))) wn ?_
 rintro _ σ47 ⟨_, ⟨a45, c46, rfl, rfl⟩, H, -⟩
 replace H : Hp S0 σ0 σ47 [Ch.bx n0 b4 0 [(Sl a45 r42.2.1 c46), (I r42.2.2)] [] [], Ch.ro 0 (Sl a45 r42.2.1 c46) r42.2.1, Ch.ro 0 (Sl a39 r36.2.1 c40) r36.2.1, Ch.own n0 n0 (Sl a27 r24.1 c28) r24.1, Ch.own n0 n0 (Sl a19 r16.1 c20) r16.1, Ch.own n0 n0 (Sl a11 r8.1 c12) r8.1] := H
 refine st (v := (Sl a11 r8.1 c12)) (rv_assign rfl) ?_
 refine st (v := (Sl a19 r16.1 c20)) (rv_assign rfl) ?_
 refine st (v := (Sl a27 r24.1 c28)) (rv_assign rfl) ?_
 refine st (v := (I r36.1)) (rv_assign rfl) ?_
 refine st (v := (I r42.1)) (rv_assign rfl) ?_
 refine w_end ?_
 refine q_then ?_
 refine c_ret ?_
 obtain rfl := Option.some.inj h
 exact fin_ret (v := (.tuple #[(Sl a11 r8.1 c12), (Sl a19 r16.1 c20), (Sl a27 r24.1 c28), (I r36.1), (I r42.1)])) (results_ok Try.results53 (res_tmp (v := (Sl a11 r8.1 c12)) rfl (res_tmp (v := (Sl a19 r16.1 c20)) rfl (res_tmp (v := (Sl a27 r24.1 c28)) rfl (res_tmp (v := (I r36.1)) rfl (res_tmp (v := (I r42.1)) rfl res_nil))))) rfl) ⟨a11, c12, a19, c20, a27, c28, rfl, rfl⟩ (H.sel' [5, 4, 3] rfl rfl)

theorem c_spec_DrawProbeCost {code_0 : List UInt8} {acode_0 : Option Addr} {ccode_0 : Nat} {r : (List (List Int)) × (List (Int × (List Int) × Int)) × (List Int) × Int} (h : M.spec_DrawProbeCost code_0 = some r) :
    Cal2 Try.prog 16 [(Sl acode_0 code_0 ccode_0)] [Ch.ro 0 (Sl acode_0 code_0 ccode_0) code_0] (fun n0 v L => ∃ (az1 : Option Addr), ∃ (cz2 : Nat), ∃ (az3 : Option Addr), ∃ (cz4 : Nat), ∃ (az5 : Option Addr), ∃ (cz6 : Nat), v = (.tuple #[(Sl az1 r.1 cz2), (Sl az3 r.2.1 cz4), (Sl az5 r.2.2.1 cz6), (I r.2.2.2)]) ∧ L = [Ch.own n0 n0 (Sl az1 r.1 cz2) r.1, Ch.own n0 n0 (Sl az3 r.2.1 cz4) r.2.1, Ch.own n0 n0 (Sl az5 r.2.2.1 cz6) r.2.2.1]) := by
 refine cal2 (n := 23) Try.func16 rfl rfl rfl rfl ?_
 intro S0 σ0 n0 hn0 H
 unfold M.spec_DrawProbeCost at h
 refine c_seq ?_
 refine rg ?_
 refine st (v := (.slice none 0 0)) (rv_assign rfl) ?_
 refine st (v := (.slice none 0 0)) (rv_assign rfl) ?_
 refine st (v := (.slice none 0 0)) (rv_assign rfl) ?_
 refine st (v := (I 0)) (rv_assign rfl) ?_
 refine w_end ?_
 refine q_then ?_
 refine c_seq ?_
 refine rg ?_
 refine st (v := (Sl acode_0 code_0 ccode_0)) (rv_move rfl) ?_
 obtain ⟨r1, hx2, h'⟩ := bind_some h
 clear h
 have h := h'; clear h'
 have hc3 := c_spec_DrawProbeNearest (acode_0 := acode_0) (ccode_0 := ccode_0) hx2
 refine st_call (cx_call hc3 (ent_f hc3.fn rfl) hn0 (show Hp S0 σ0 _ ([Ch.ro 0 (Sl acode_0 code_0 ccode_0) code_0] ++ [Ch.ro 0 (Sl acode_0 code_0 ccode_0) code_0]) from (H.sel' [0, 0] rfl rfl))) wn ?_
 rintro _ σ10 ⟨_, ⟨a4, c5, a6, c7, a8, c9, rfl, rfl⟩, H, -⟩
 replace H : Hp S0 σ0 σ10 [Ch.own n0 n0 (Sl a4 r1.1 c5) r1.1, Ch.own n0 n0 (Sl a6 r1.2.1 c7) r1.2.1, Ch.own n0 n0 (Sl a8 r1.2.2.1 c9) r1.2.2.1, Ch.ro 0 (Sl acode_0 code_0 ccode_0) code_0] := H
 refine st (v := (.tuple #[(Sl a4 r1.1 c5), (Sl a6 r1.2.1 c7), (Sl a8 r1.2.2.1 c9), (I r1.2.2.2.1), (I r1.2.2.2.2)])) (rv_move rfl) ?_
 refine st (v := (Sl a4 r1.1 c5)) (rv_extract rfl rfl) ?_
 refine st (v := (Sl a6 r1.2.1 c7)) (rv_extract rfl rfl) ?_
 refine st (v := (Sl a8 r1.2.2.1 c9)) (rv_extract rfl rfl) ?_
 refine st (v := (I r1.2.2.2.1)) (rv_extract rfl rfl) ?_
 refine st (v := (I r1.2.2.2.2)) (rv_extract rfl rfl) ?_
 refine st (v := (Sl a4 r1.1 c5)) (rv_assign rfl) ?_
 refine st (v := (Sl a6 r1.2.1 c7)) (rv_assign rfl) ?_
 refine st (v := (Sl a8 r1.2.2.1 c9)) (rv_assign rfl) ?_
 refine st (v := (I r1.2.2.2.1)) (rv_assign rfl) ?_
 refine st (v := (I r1.2.2.2.2)) (rv_assign rfl) ?_
 refine w_end ?_
 refine q_then ?_
 refine c_seq ?_
 refine rg ?_
 refine st (v := (Sl a4 r1.1 c5)) (rv_move rfl) ?_
 refine st (v := (Sl a6 r1.2.1 c7)) (rv_move rfl) ?_
 refine st (v := (Sl a8 r1.2.2.1 c9)) (rv_move rfl) ?_
 refine st (v := (I r1.2.2.2.1)) (rv_move rfl) ?_
 refine st (v := (Sl a4 r1.1 c5)) (rv_assign rfl) ?_
 refine st (v := (Sl a6 r1.2.1 c7)) (rv_assign rfl) ?_
 refine st (v := (Sl a8 r1.2.2.1 c9)) (rv_assign rfl) ?_
 refine st (v := (I r1.2.2.2.1)) (rv_assign rfl) ?_
 refine w_end ?_
 refine q_then ?_
 refine c_ret ?_
 obtain rfl := Option.some.inj h
 exact fin_ret (v := (.tuple #[(Sl a4 r1.1 c5), (Sl a6 r1.2.1 c7), (Sl a8 r1.2.2.1 c9), (I r1.2.2.2.1)])) (results_ok Try.results16 (res_tmp (v := (Sl a4 r1.1 c5)) rfl (res_tmp (v := (Sl a6 r1.2.1 c7)) rfl (res_tmp (v := (Sl a8 r1.2.2.1 c9)) rfl (res_tmp (v := (I r1.2.2.2.1)) rfl res_nil)))) rfl) ⟨a4, c5, a6, c7, a8, c9, rfl, rfl⟩ (H.sel' [0, 1, 2] rfl rfl)

theorem c_impl_validProbe {centres_0 : List (List Int)} {at_1 : List Int} {many_2 : Int} {acentres_0 : Option Addr} {ccentres_0 : Nat} {aat_1 : Option Addr} {cat_1 : Nat} {r : Bool} (h : M.impl_validProbe centres_0 at_1 many_2 = some r) :
    Cal2 Try.prog 54 [(Sl acentres_0 centres_0 ccentres_0), (Sl aat_1 at_1 cat_1), (I many_2)] [Ch.ro 0 (Sl acentres_0 centres_0 ccentres_0) centres_0, Ch.ro 0 (Sl aat_1 at_1 cat_1) at_1] (fun n0 v L => v = (B r) ∧ L = []) := by
 refine cal2 (n := 21) Try.func54 rfl rfl rfl rfl ?_
 intro S0 σ0 n0 hn0 H
 unfold M.impl_validProbe at h
 refine c_seq ?_
 refine rg ?_
 refine st (v := (B false)) (rv_assign rfl) ?_
 refine w_end ?_
 refine q_then ?_
 refine c_seq ?_
 refine rg ?_
 refine st (v := (Sl acentres_0 centres_0 ccentres_0)) (rv_move rfl) ?_
 obtain ⟨r1, hx2, h'⟩ := bind_some h
 clear h
 have h := h'; clear h'
 have hc3 := c_impl_ValidCentres (alist_0 := acentres_0) (clist_0 := ccentres_0) hx2
 refine st_call (cx_call hc3 (ent_f hc3.fn rfl) hn0 (show Hp S0 σ0 _ ([Ch.ro 0 (Sl acentres_0 centres_0 ccentres_0) centres_0] ++ [Ch.ro 0 (Sl acentres_0 centres_0 ccentres_0) centres_0, Ch.ro 0 (Sl aat_1 at_1 cat_1) at_1]) from (H.sel' [0, 0, 1] rfl rfl))) wn ?_
 rintro _ σ4 ⟨_, ⟨rfl, rfl⟩, H, -⟩
 replace H : Hp S0 σ0 σ4 [Ch.ro 0 (Sl acentres_0 centres_0 ccentres_0) centres_0, Ch.ro 0 (Sl aat_1 at_1 cat_1) at_1] := H
 refine st (v := (B r1)) (rv_move rfl) ?_
 rcases Bool.eq_false_or_eq_true r1 with hb5 | hb5
 ·replace h := bif_t hb5 h
  refine st_g (v := (Sl aat_1 at_1 cat_1)) (congrArg some hb5) (rv_move rfl) ?_
  obtain ⟨r6, hx7, h'⟩ := bind_some h
  clear h
  have h := h'; clear h'
  have hc8 := c_impl_ValidVector (av_0 := aat_1) (cv_0 := cat_1) hx7
  refine st_call (cx_call hc8 (ent_f hc8.fn rfl) hn0 (show Hp S0 σ0 _ ([Ch.ro 0 (Sl aat_1 at_1 cat_1) at_1] ++ [Ch.ro 0 (Sl acentres_0 centres_0 ccentres_0) centres_0, Ch.ro 0 (Sl aat_1 at_1 cat_1) at_1]) from (H.sel' [1, 0, 1] rfl rfl))) (wanted_yes rfl (by exact (congrArg some hb5))) ?_
  rintro _ σ9 ⟨_, ⟨rfl, rfl⟩, H, -⟩
  replace H : Hp S0 σ0 σ9 [Ch.ro 0 (Sl acentres_0 centres_0 ccentres_0) centres_0, Ch.ro 0 (Sl aat_1 at_1 cat_1) at_1] := H
  refine st (v := (B r6)) (rv_pick_t (congrArg B hb5) rfl) ?_
  refine st (v := (B r6)) (rv_move rfl) ?_
  rcases Bool.eq_false_or_eq_true r6 with hb10 | hb10
  ·replace h := bif_t hb10 h
   refine st_g (v := (I many_2)) (congrArg some hb10) (rv_move rfl) ?_
   refine st_g (v := (B (decide (1 ≤ many_2)))) (congrArg some hb10) (rv_geq (a := many_2) (b := 1) rfl rfl) ?_
   refine st (v := (B (decide (1 ≤ many_2)))) (rv_pick_t (congrArg B hb10) rfl) ?_
   refine st (v := (B (decide (1 ≤ many_2)))) (rv_move rfl) ?_
   rcases Bool.eq_false_or_eq_true (decide (1 ≤ many_2)) with hb11 | hb11
   ·replace h := bif_t hb11 h
    refine st_g (v := (I many_2)) (congrArg some hb11) (rv_move rfl) ?_
    refine st_g (v := (B (decide (many_2 ≤ 4)))) (congrArg some hb11) (rv_leq (a := many_2) (b := 4) rfl rfl) ?_
    refine st (v := (B (decide (many_2 ≤ 4)))) (rv_pick_t (congrArg B hb11) rfl) ?_
    refine st (v := (B (decide (many_2 ≤ 4)))) (rv_assign rfl) ?_
    refine w_end ?_
    refine q_then ?_
    refine c_ret ?_
    obtain rfl := Option.some.inj h
    exact fin_ret (v := (B (decide (many_2 ≤ 4)))) (results_ok Try.results54 (res_tmp (v := (B (decide (many_2 ≤ 4)))) rfl res_nil) rfl) ⟨rfl, rfl⟩ (H.sel' [] rfl rfl)
   ·replace h := bif_f hb11 h
    refine st_skip (congrArg some hb11) ?_
    refine st_skip (congrArg some hb11) ?_
    refine st (v := (B false)) (rv_pick_f (congrArg B hb11) rfl) ?_
    refine st (v := (B false)) (rv_assign rfl) ?_
    refine w_end ?_
    refine q_then ?_
    refine c_ret ?_
    obtain rfl := Option.some.inj h
    exact fin_ret (v := (B false)) (results_ok Try.results54 (res_tmp (v := (B false)) rfl res_nil) rfl) ⟨rfl, rfl⟩ (H.sel' [] rfl rfl)
  ·replace h := bif_f hb10 h
   refine st_skip (congrArg some hb10) ?_
   refine st_skip (congrArg some hb10) ?_
   refine st (v := (B false)) (rv_pick_f (congrArg B hb10) rfl) ?_
   refine st (v := (B false)) (rv_move rfl) ?_
   refine st_skip rfl ?_
   refine st_skip rfl ?_
   refine st (v := (B false)) (rv_pick_f rfl rfl) ?_
   refine st (v := (B false)) (rv_assign rfl) ?_
   refine w_end ?_
   refine q_then ?_
   refine c_ret ?_
   obtain rfl := Option.some.inj h
   exact fin_ret (v := (B false)) (results_ok Try.results54 (res_tmp (v := (B false)) rfl res_nil) rfl) ⟨rfl, rfl⟩ (H.sel' [] rfl rfl)
 ·replace h := bif_f hb5 h
  refine st_skip (congrArg some hb5) ?_
  refine st_skip (congrArg some hb5) ?_
  refine st (v := (B false)) (rv_pick_f (congrArg B hb5) rfl) ?_
  refine st (v := (B false)) (rv_move rfl) ?_
  refine st_skip rfl ?_
  refine st_skip rfl ?_
  refine st (v := (B false)) (rv_pick_f rfl rfl) ?_
  refine st (v := (B false)) (rv_move rfl) ?_
  refine st_skip rfl ?_
  refine st_skip rfl ?_
  refine st (v := (B false)) (rv_pick_f rfl rfl) ?_
  refine st (v := (B false)) (rv_assign rfl) ?_
  refine w_end ?_
  refine q_then ?_
  refine c_ret ?_
  obtain rfl := Option.some.inj h
  exact fin_ret (v := (B false)) (results_ok Try.results54 (res_tmp (v := (B false)) rfl res_nil) rfl) ⟨rfl, rfl⟩ (H.sel' [] rfl rfl)

theorem c_cmp_isNaN_int {x_0 : Int}  {r : Bool} (h : M.cmp_isNaN_int x_0 = some r) :
    Cal2 Try.prog 97 [(I x_0)] [] (fun n0 v L => v = (B r) ∧ L = []) := by
 refine cal2 (n := 6) Try.func97 rfl rfl rfl rfl ?_
 intro S0 σ0 n0 hn0 H
 unfold M.cmp_isNaN_int at h
 refine c_seq ?_
 refine rg ?_
 refine st (v := (B false)) (rv_assign rfl) ?_
 refine w_end ?_
 refine q_then ?_
 refine c_seq ?_
 refine rg ?_
 refine st (v := (I x_0)) (rv_move rfl) ?_
 refine st (v := (I x_0)) (rv_move rfl) ?_
 refine st (v := (B (x_0 != x_0))) (rv_neq (a := x_0) (b := x_0) rfl rfl) ?_
 refine st (v := (B (x_0 != x_0))) (rv_assign rfl) ?_
 refine w_end ?_
 refine q_then ?_
 refine c_ret ?_
 obtain rfl := Option.some.inj h
 exact fin_ret (v := (B (x_0 != x_0))) (results_ok Try.results97 (res_tmp (v := (B (x_0 != x_0))) rfl res_nil) rfl) ⟨rfl, rfl⟩ (H.sel' [] rfl rfl)

theorem c_cmp_Compare_int {x_0 : Int} {y_1 : Int}  {r : Int} (h : M.cmp_Compare_int x_0 y_1 = some r) :
    Cal2 Try.prog 64 [(I x_0), (I y_1)] [] (fun n0 v L => v = (I r) ∧ L = []) := by
 refine cal2 (n := 20) Try.func64 rfl rfl rfl rfl ?_
 intro S0 σ0 n0 hn0 H
 unfold M.cmp_Compare_int at h
 refine c_seq ?_
 refine rg ?_
 refine st (v := (I 0)) (rv_assign rfl) ?_
 refine w_end ?_
 refine q_then ?_
 refine c_seq ?_
 refine rg ?_
 refine st (v := (I x_0)) (rv_move rfl) ?_
 obtain ⟨r1, hx2, h'⟩ := bind_some h
 clear h
 have h := h'; clear h'
 have hc3 := c_cmp_isNaN_int hx2
 refine st_call (cx_call hc3 (ent_f hc3.fn rfl) hn0 (show Hp S0 σ0 _ ([] ++ []) from (H.sel' [] rfl rfl))) wn ?_
 rintro _ σ4 ⟨_, ⟨rfl, rfl⟩, H, -⟩
 replace H : Hp S0 σ0 σ4 [] := H
 refine st (v := (B r1)) (rv_assign rfl) ?_
 refine w_end ?_
 refine q_then ?_
 refine c_seq ?_
 refine rg ?_
 refine st (v := (I y_1)) (rv_move rfl) ?_
 obtain ⟨r5, hx6, h'⟩ := bind_some h
 clear h
 have h := h'; clear h'
 have hc7 := c_cmp_isNaN_int hx6
 refine st_call (cx_call hc7 (ent_f hc7.fn rfl) hn0 (show Hp S0 σ0 _ ([] ++ []) from (H.sel' [] rfl rfl))) wn ?_
 rintro _ σ8 ⟨_, ⟨rfl, rfl⟩, H, -⟩
 replace H : Hp S0 σ0 σ8 [] := H
 refine st (v := (B r5)) (rv_assign rfl) ?_
 refine w_end ?_
 refine q_then ?_
 refine c_seq ?_
 refine c_seq ?_
 refine rg ?_
 refine st (v := (B r1)) (rv_move rfl) ?_
 refine w_end ?_
 refine q_then ?_
 refine cd_cond r1 rfl (fun hb9 => ?_) (fun hb9 => ?_)
 ·replace h := bif_t hb9 h
  refine c_seq ?_
  refine c_seq ?_
  refine rg ?_
  refine st (v := (B r5)) (rv_move rfl) ?_
  refine w_end ?_
  refine q_then ?_
  refine cd_cond r5 rfl (fun hb10 => ?_) (fun hb10 => ?_)
  ·replace h := bif_t hb10 h
   refine c_seq ?_
   refine rg ?_
   refine st (v := (I 0)) (rv_assign rfl) ?_
   refine w_end ?_
   refine q_then ?_
   refine c_ret ?_
   refine q_then_r ?_
   refine q_then_r ?_
   obtain rfl := Option.some.inj h
   exact fin_ret (v := (I 0)) (results_ok Try.results64 (res_tmp (v := (I 0)) rfl res_nil) rfl) ⟨rfl, rfl⟩ (H.sel' [] rfl rfl)
  ·replace h := bif_f hb10 h
   refine c_skip ?_
   refine q_then ?_
   refine c_seq ?_
   refine rg ?_
   refine st (v := (I (-1))) (rv_assign rfl) ?_
   refine w_end ?_
   refine q_then ?_
   refine c_ret ?_
   refine q_then_r ?_
   obtain rfl := Option.some.inj h
   exact fin_ret (v := (I (-1))) (results_ok Try.results64 (res_tmp (v := (I (-1))) rfl res_nil) rfl) ⟨rfl, rfl⟩ (H.sel' [] rfl rfl)
 ·replace h := bif_f hb9 h
  refine c_skip ?_
  refine q_then ?_
  refine c_seq ?_
  refine c_seq ?_
  refine rg ?_
  refine st (v := (B r5)) (rv_move rfl) ?_
  refine w_end ?_
  refine q_then ?_
  refine cd_cond r5 rfl (fun hb11 => ?_) (fun hb11 => ?_)
  ·replace h := bif_t hb11 h
   refine c_seq ?_
   refine rg ?_
   refine st (v := (I 1)) (rv_assign rfl) ?_
   refine w_end ?_
   refine q_then ?_
   refine c_ret ?_
   refine q_then_r ?_
   obtain rfl := Option.some.inj h
   exact fin_ret (v := (I 1)) (results_ok Try.results64 (res_tmp (v := (I 1)) rfl res_nil) rfl) ⟨rfl, rfl⟩ (H.sel' [] rfl rfl)
  ·replace h := bif_f hb11 h
   refine c_skip ?_
   refine q_then ?_
   refine c_seq ?_
   refine c_seq ?_
   refine rg ?_
   refine st (v := (I x_0)) (rv_move rfl) ?_
   refine st (v := (I y_1)) (rv_move rfl) ?_
   refine st (v := (B (decide (x_0 < y_1)))) (rv_lss (a := x_0) (b := y_1) rfl rfl) ?_
   refine w_end ?_
   refine q_then ?_
   refine cd_cond (decide (x_0 < y_1)) rfl (fun hb12 => ?_) (fun hb12 => ?_)
   ·replace h := bif_t hb12 h
    refine c_seq ?_
    refine rg ?_
    refine st (v := (I (-1))) (rv_assign rfl) ?_
    refine w_end ?_
    refine q_then ?_
    refine c_ret ?_
    refine q_then_r ?_
    obtain rfl := Option.some.inj h
    exact fin_ret (v := (I (-1))) (results_ok Try.results64 (res_tmp (v := (I (-1))) rfl res_nil) rfl) ⟨rfl, rfl⟩ (H.sel' [] rfl rfl)
   ·replace h := bif_f hb12 h
    refine c_skip ?_
    refine q_then ?_
    refine c_seq ?_
    refine c_seq ?_
    refine rg ?_
    refine st (v := (I x_0)) (rv_move rfl) ?_
    refine st (v := (I y_1)) (rv_move rfl) ?_
    refine st (v := (B (decide (y_1 < x_0)))) (rv_gtr (a := x_0) (b := y_1) rfl rfl) ?_
    refine w_end ?_
    refine q_then ?_
    refine cd_cond (decide (y_1 < x_0)) rfl (fun hb13 => ?_) (fun hb13 => ?_)
    ·replace h := bif_t hb13 h
     refine c_seq ?_
     refine rg ?_
     refine st (v := (I 1)) (rv_assign rfl) ?_
     refine w_end ?_
     refine q_then ?_
     refine c_ret ?_
     refine q_then_r ?_
     obtain rfl := Option.some.inj h
     exact fin_ret (v := (I 1)) (results_ok Try.results64 (res_tmp (v := (I 1)) rfl res_nil) rfl) ⟨rfl, rfl⟩ (H.sel' [] rfl rfl)
    ·replace h := bif_f hb13 h
     refine c_skip ?_
     refine q_then ?_
     refine c_seq ?_
     refine rg ?_
     refine st (v := (I 0)) (rv_assign rfl) ?_
     refine w_end ?_
     refine q_then ?_
     refine c_ret ?_
     obtain rfl := Option.some.inj h
     exact fin_ret (v := (I 0)) (results_ok Try.results64 (res_tmp (v := (I 0)) rfl res_nil) rfl) ⟨rfl, rfl⟩ (H.sel' [] rfl rfl)

theorem c_impl_ProbeOrder_1__p_SSint__p24 {i_0 : Int} {j_1 : Int} {p_2 : List (List Int)} {p_3 : List Int} {ap_2 : Option Addr} {cp_2 : Nat} {lop_2 bp_2 op_2 : Nat} {prep_2 sufp_2 : List Value} {ap_3 : Option Addr} {cp_3 : Nat} {lop_3 bp_3 op_3 : Nat} {prep_3 sufp_3 : List Value} {r : Int} (h : M.impl_ProbeOrder_1__p_SSint__p24 i_0 j_1 p_2 p_3 = some r) :
    Cal2 Try.prog 63 [(I i_0), (I j_1), (pt bp_2 op_2), (pt bp_3 op_3)] [Ch.bx lop_2 bp_2 op_2 [(Sl ap_2 p_2 cp_2)] prep_2 sufp_2, Ch.ro 0 (Sl ap_2 p_2 cp_2) p_2, Ch.bx lop_3 bp_3 op_3 [(Sl ap_3 p_3 cp_3)] prep_3 sufp_3, Ch.ro 0 (Sl ap_3 p_3 cp_3) p_3] (fun n0 v L => v = (I r) ∧ L = [Ch.bx lop_2 bp_2 op_2 [(Sl ap_2 p_2 cp_2)] prep_2 sufp_2, Ch.bx lop_3 bp_3 op_3 [(Sl ap_3 p_3 cp_3)] prep_3 sufp_3]) := by
 refine cal2 (n := 20) Try.func63 rfl rfl rfl rfl ?_
 intro S0 σ0 n0 hn0 H
 unfold M.impl_ProbeOrder_1__p_SSint__p24 at h
 refine c_seq ?_
 refine rg ?_
 refine st (v := (I 0)) (rv_assign rfl) ?_
 refine w_end ?_
 refine q_then ?_
 refine c_seq ?_
 have hc1 := H.cell (u := (Sl ap_2 p_2 cp_2)) (o' := op_2) 0 0 rfl rfl rfl
 obtain ⟨x2, hx3, h'⟩ := bind_some h
 clear h
 have h := h'; clear h'
 obtain ⟨b5, o6, hi4, -⟩ := (H.ro 1 rfl).ix hx3
 obtain ⟨v10, hc11, hR9⟩ := ((H.ro 1 rfl).at hx3 hi4).slice
 obtain ⟨a7, c8, rfl⟩ := hR9.isSl
 replace H := H.add (d := Ch.ro 0 (Sl a7 x2 c8) x2) hR9 (fun _ h => h)
 clear hR9
 have hc12 := H.cell (u := (Sl ap_3 p_3 cp_3)) (o' := op_3) 3 0 rfl rfl rfl
 obtain ⟨r13, hx14, h'⟩ := bind_some h
 clear h
 have h := h'; clear h'
 have hc15 := c_impl_Distance (aa_1 := a7) (ca_1 := c8) (ab_2 := ap_3) (cb_2 := cp_3) hx14
 have hc16 := H.cell (u := (Sl ap_2 p_2 cp_2)) (o' := op_2) 1 0 rfl rfl rfl
 obtain ⟨x17, hx18, h'⟩ := bind_some h
 clear h
 have h := h'; clear h'
 obtain ⟨b20, o21, hi19, -⟩ := (H.ro 2 rfl).ix hx18
 obtain ⟨v25, hc26, hR24⟩ := ((H.ro 2 rfl).at hx18 hi19).slice
 obtain ⟨a22, c23, rfl⟩ := hR24.isSl
 replace H := H.add (d := Ch.ro 0 (Sl a22 x17 c23) x17) hR24 (fun _ h => h)
 clear hR24
 have hc27 := H.cell (u := (Sl ap_3 p_3 cp_3)) (o' := op_3) 4 0 rfl rfl rfl
 have Hs := H
 refine rg2 (σ := σ0) (Nm := Unit) 11 [5] [[false], [true]] [[(0, 0)], [(0, 0)], [(0, 0)], [(0, 0)], [(0, 0)], [(0, 1)], [(0, 0), (1, 1)], [(0, 0), (1, 1)], [(0, 0), (1, 1)], [(0, 0), (1, 1)], [(0, 0), (1, 1)]] 1 [fun _ => fun σm => Hp S0 σ0 σm [Ch.ro 0 (Sl a22 x17 c23) x17, Ch.ro 0 (Sl a7 x2 c8) x2, Ch.bx lop_2 bp_2 op_2 [(Sl ap_2 p_2 cp_2)] prep_2 sufp_2, Ch.ro 0 (Sl ap_2 p_2 cp_2) p_2, Ch.bx lop_3 bp_3 op_3 [(Sl ap_3 p_3 cp_3)] prep_3 sufp_3, Ch.ro 0 (Sl ap_3 p_3 cp_3) p_3] ∧ Md (cov []) σ0 σm, fun _ => fun σm => Hp S0 σ0 σm [Ch.ro 0 (Sl a22 x17 c23) x17, Ch.ro 0 (Sl a7 x2 c8) x2, Ch.bx lop_2 bp_2 op_2 [(Sl ap_2 p_2 cp_2)] prep_2 sufp_2, Ch.ro 0 (Sl ap_2 p_2 cp_2) p_2, Ch.bx lop_3 bp_3 op_3 [(Sl ap_3 p_3 cp_3)] prep_3 sufp_3, Ch.ro 0 (Sl ap_3 p_3 cp_3) p_3] ∧ Md (cov []) σ0 σm] [fun _ => (Sl ap_2 p_2 cp_2), fun _ => (I i_0), fun _ => (pt b5 o6), fun _ => (Sl a7 x2 c8), fun _ => (Sl ap_3 p_3 cp_3), fun _ => (I r13), fun _ => (Sl ap_2 p_2 cp_2), fun _ => (I j_1), fun _ => (pt b20 o21), fun _ => (Sl a22 x17 c23), fun _ => (Sl ap_3 p_3 cp_3)] () (by kernel_rfl) (by kernel_rfl) ?_ ?_ ?_
 ·intro σm m0
  exact ⟨H.grow (m0.mono fun _ h => h.elim), m0⟩
 ·refine all_cons (by
    refine ⟨?_, ?_⟩
    ·intro _nm ρ σm hJ hoff hdep
     have e2 := look_off (N := 20) (hoff 2 rfl) rfl
     obtain ⟨H, m⟩ := id hJ
     have hc1 := H.cell (u := (Sl ap_2 p_2 cp_2)) (o' := op_2) 2 0 rfl rfl rfl
     exact dp_v (v := (Sl ap_2 p_2 cp_2)) wn (rv_load1 Try.underlying23 rfl e2 hc1) rfl hJ
    trivial) ?_
  refine ac rfl (by
    intro k _nm ρ σm hJ hoff hdep
    have e0 := look_off (N := 20) (hoff 0 rfl) rfl
    exact dp_v (v := (I i_0)) wn (rv_move e0) rfl hJ) ?_
  refine ac rfl (by
    intro k _nm ρ σm hJ hoff hdep
    have e7 := hdep 0 rfl rfl 7 rfl
    have e8 := hdep 1 rfl rfl 8 rfl
    exact dp_v (v := (pt b5 o6)) wn (rv_ix Try.underlying23 ti29 e7 e8 hi4) rfl hJ) ?_
  refine all_cons (by
    refine ⟨?_, ?_⟩
    ·intro _nm ρ σm hJ hoff hdep
     have e9 := hdep 2 rfl rfl 9 rfl
     obtain ⟨H, m⟩ := id hJ
     replace hc11 := (Hs.ro 3 rfl).hmd hx3 hi4 (k := 0) (by decide) hc11 m
     exact dp_v (v := (Sl a7 x2 c8)) wn (rv_load1 Try.underlying29 rfl e9 hc11) rfl hJ
    trivial) ?_
  refine all_cons (by
    refine ⟨?_, ?_⟩
    ·intro _nm ρ σm hJ hoff hdep
     have e3 := look_off (N := 20) (hoff 3 rfl) rfl
     obtain ⟨H, m⟩ := id hJ
     have hc12 := H.cell (u := (Sl ap_3 p_3 cp_3)) (o' := op_3) 4 0 rfl rfl rfl
     exact dp_v (v := (Sl ap_3 p_3 cp_3)) wn (rv_load1 Try.underlying29 rfl e3 hc12) rfl hJ
    trivial) ?_
  refine all_cons (by
    refine ⟨?_, ?_⟩
    ·intro _nm ρ σm hJ hoff hdep
     have e10 : look 20 ρ 10 = (Sl a7 x2 c8) := hdep 3 rfl rfl 10 rfl
     have e11 : look 20 ρ 11 = (Sl ap_3 p_3 cp_3) := hdep 4 rfl rfl 11 rfl
     obtain ⟨H, m⟩ := id hJ
     refine dp_cx wn (cx_call hc15 (ent_f hc15.fn (by show [(I 3), look 20 ρ 10, look 20 ρ 11] = _; rw [e10, e11])) hn0 (show Hp S0 σ0 _ ([Ch.ro 0 (Sl a7 x2 c8) x2, Ch.ro 0 (Sl ap_3 p_3 cp_3) p_3] ++ [Ch.ro 0 (Sl a22 x17 c23) x17, Ch.ro 0 (Sl a7 x2 c8) x2, Ch.bx lop_2 bp_2 op_2 [(Sl ap_2 p_2 cp_2)] prep_2 sufp_2, Ch.ro 0 (Sl ap_2 p_2 cp_2) p_2, Ch.bx lop_3 bp_3 op_3 [(Sl ap_3 p_3 cp_3)] prep_3 sufp_3, Ch.ro 0 (Sl ap_3 p_3 cp_3) p_3]) from (H.sel' [1, 5, 0, 1, 2, 3, 4, 5] rfl rfl))) ?_
     rintro _ σq ⟨_, ⟨rfl, rfl⟩, H2, m2⟩
     exact ⟨_, (), rfl, rfl, ⟨H2.sel' [0, 1, 2, 3, 4, 5] rfl rfl, m.comp0 (m2.mono (fun i h => by simp [cov, Ch.ro] at h))⟩, stab [0, 1, 2, 3, 4, 6, 7, 8, 9, 10] (by kernel_rfl) ⟨rfl, rfl, rfl, rfl, rfl, rfl, rfl, rfl, rfl, rfl, trivial⟩⟩
    trivial) ?_
  refine all_cons (by
    refine ⟨?_, ?_⟩
    ·intro _nm ρ σm hJ hoff hdep
     have e2 := look_off (N := 20) (hoff 2 rfl) rfl
     obtain ⟨H, m⟩ := id hJ
     have hc16 := H.cell (u := (Sl ap_2 p_2 cp_2)) (o' := op_2) 2 0 rfl rfl rfl
     exact dp_v (v := (Sl ap_2 p_2 cp_2)) wn (rv_load1 Try.underlying23 rfl e2 hc16) rfl hJ
    refine ⟨?_, ?_⟩
    ·intro _nm ρ σm hJ hoff hdep
     have e2 := look_off (N := 20) (hoff 2 rfl) rfl
     obtain ⟨H, m⟩ := id hJ
     have hc16 := H.cell (u := (Sl ap_2 p_2 cp_2)) (o' := op_2) 2 0 rfl rfl rfl
     exact dp_v (v := (Sl ap_2 p_2 cp_2)) wn (rv_load1 Try.underlying23 rfl e2 hc16) rfl hJ
    trivial) ?_
  refine ac rfl (by
    intro k _nm ρ σm hJ hoff hdep
    have e1 := look_off (N := 20) (hoff 1 rfl) rfl
    exact dp_v (v := (I j_1)) wn (rv_move e1) rfl hJ) ?_
  refine ac rfl (by
    intro k _nm ρ σm hJ hoff hdep
    have e13 := hdep 6 rfl rfl 13 rfl
    have e14 := hdep 7 rfl rfl 14 rfl
    exact dp_v (v := (pt b20 o21)) wn (rv_ix Try.underlying23 ti29 e13 e14 hi19) rfl hJ) ?_
  refine all_cons (by
    refine ⟨?_, ?_⟩
    ·intro _nm ρ σm hJ hoff hdep
     have e15 := hdep 8 rfl rfl 15 rfl
     obtain ⟨H, m⟩ := id hJ
     replace hc26 := (Hs.ro 3 rfl).hmd hx18 hi19 (k := 0) (by decide) hc26 m
     exact dp_v (v := (Sl a22 x17 c23)) wn (rv_load1 Try.underlying29 rfl e15 hc26) rfl hJ
    refine ⟨?_, ?_⟩
    ·intro _nm ρ σm hJ hoff hdep
     have e15 := hdep 8 rfl rfl 15 rfl
     obtain ⟨H, m⟩ := id hJ
     replace hc26 := (Hs.ro 3 rfl).hmd hx18 hi19 (k := 0) (by decide) hc26 m
     exact dp_v (v := (Sl a22 x17 c23)) wn (rv_load1 Try.underlying29 rfl e15 hc26) rfl hJ
    trivial) ?_
  refine all_cons (by
    refine ⟨?_, ?_⟩
    ·intro _nm ρ σm hJ hoff hdep
     have e3 := look_off (N := 20) (hoff 3 rfl) rfl
     obtain ⟨H, m⟩ := id hJ
     have hc27 := H.cell (u := (Sl ap_3 p_3 cp_3)) (o' := op_3) 4 0 rfl rfl rfl
     exact dp_v (v := (Sl ap_3 p_3 cp_3)) wn (rv_load1 Try.underlying29 rfl e3 hc27) rfl hJ
    refine ⟨?_, ?_⟩
    ·intro _nm ρ σm hJ hoff hdep
     have e3 := look_off (N := 20) (hoff 3 rfl) rfl
     obtain ⟨H, m⟩ := id hJ
     have hc27 := H.cell (u := (Sl ap_3 p_3 cp_3)) (o' := op_3) 4 0 rfl rfl rfl
     exact dp_v (v := (Sl ap_3 p_3 cp_3)) wn (rv_load1 Try.underlying29 rfl e3 hc27) rfl hJ
    trivial) ?_
  exact all_nil
 ·intro _nm ρ σ28 hJ hoff hrel
  have e2 := look_off (N := 20) (hoff 2 rfl) rfl
  have e3 := look_off (N := 20) (hoff 3 rfl) rfl
  have e12 := hrel 5 rfl 12 rfl
  have e16 := hrel 9 rfl 16 rfl
  have e17 := hrel 10 rfl 17 rfl
  obtain ⟨H, -⟩ := (show Hp S0 σ0 σ28 [Ch.ro 0 (Sl a22 x17 c23) x17, Ch.ro 0 (Sl a7 x2 c8) x2, Ch.bx lop_2 bp_2 op_2 [(Sl ap_2 p_2 cp_2)] prep_2 sufp_2, Ch.ro 0 (Sl ap_2 p_2 cp_2) p_2, Ch.bx lop_3 bp_3 op_3 [(Sl ap_3 p_3 cp_3)] prep_3 sufp_3, Ch.ro 0 (Sl ap_3 p_3 cp_3) p_3] ∧ Md (cov []) σ0 σ28 from hJ)
  clear hJ Hs
  rw [fr_lookL (L := [(2, (pt bp_2 op_2)), (3, (pt bp_3 op_3)), (12, (I r13)), (16, (Sl a22 x17 c23)), (17, (Sl ap_3 p_3 cp_3))]) ⟨e2, e3, e12, e16, e17, trivial⟩]
  clear hoff hrel e2 e3 e12 e16 e17
  obtain ⟨r29, hx30, h'⟩ := bind_some h
  clear h
  have h := h'; clear h'
  have hc31 := c_impl_Distance (aa_1 := a22) (ca_1 := c23) (ab_2 := ap_3) (cb_2 := cp_3) hx30
  refine st_call (cx_call hc31 (ent_f hc31.fn rfl) hn0 (show Hp S0 σ0 _ ([Ch.ro 0 (Sl a22 x17 c23) x17, Ch.ro 0 (Sl ap_3 p_3 cp_3) p_3] ++ [Ch.ro 0 (Sl a22 x17 c23) x17, Ch.ro 0 (Sl a7 x2 c8) x2, Ch.bx lop_2 bp_2 op_2 [(Sl ap_2 p_2 cp_2)] prep_2 sufp_2, Ch.ro 0 (Sl ap_2 p_2 cp_2) p_2, Ch.bx lop_3 bp_3 op_3 [(Sl ap_3 p_3 cp_3)] prep_3 sufp_3, Ch.ro 0 (Sl ap_3 p_3 cp_3) p_3]) from (H.sel' [0, 5, 0, 1, 2, 3, 4, 5] rfl rfl))) wn ?_
  rintro _ σ32 ⟨_, ⟨rfl, rfl⟩, H, -⟩
  replace H : Hp S0 σ0 σ32 [Ch.ro 0 (Sl a22 x17 c23) x17, Ch.ro 0 (Sl a7 x2 c8) x2, Ch.bx lop_2 bp_2 op_2 [(Sl ap_2 p_2 cp_2)] prep_2 sufp_2, Ch.ro 0 (Sl ap_2 p_2 cp_2) p_2, Ch.bx lop_3 bp_3 op_3 [(Sl ap_3 p_3 cp_3)] prep_3 sufp_3, Ch.ro 0 (Sl ap_3 p_3 cp_3) p_3] := H
  obtain ⟨r33, hx34, h'⟩ := bind_some h
  clear h
  have h := h'; clear h'
  have hc35 := c_cmp_Compare_int hx34
  refine st_call (cx_call hc35 (ent_f hc35.fn rfl) hn0 (show Hp S0 σ0 _ ([] ++ [Ch.ro 0 (Sl a22 x17 c23) x17, Ch.ro 0 (Sl a7 x2 c8) x2, Ch.bx lop_2 bp_2 op_2 [(Sl ap_2 p_2 cp_2)] prep_2 sufp_2, Ch.ro 0 (Sl ap_2 p_2 cp_2) p_2, Ch.bx lop_3 bp_3 op_3 [(Sl ap_3 p_3 cp_3)] prep_3 sufp_3, Ch.ro 0 (Sl ap_3 p_3 cp_3) p_3]) from (H.sel' [0, 1, 2, 3, 4, 5] rfl rfl))) wn ?_
  rintro _ σ36 ⟨_, ⟨rfl, rfl⟩, H, -⟩
  replace H : Hp S0 σ0 σ36 [Ch.ro 0 (Sl a22 x17 c23) x17, Ch.ro 0 (Sl a7 x2 c8) x2, Ch.bx lop_2 bp_2 op_2 [(Sl ap_2 p_2 cp_2)] prep_2 sufp_2, Ch.ro 0 (Sl ap_2 p_2 cp_2) p_2, Ch.bx lop_3 bp_3 op_3 [(Sl ap_3 p_3 cp_3)] prep_3 sufp_3, Ch.ro 0 (Sl ap_3 p_3 cp_3) p_3] := H
  refine st (v := (I r33)) (rv_assign rfl) ?_
  refine w_end ?_
  refine q_then ?_
  refine c_ret ?_
  obtain rfl := Option.some.inj h
  exact fin_ret (v := (I r33)) (results_ok Try.results63 (res_tmp (v := (I r33)) rfl res_nil) rfl) ⟨rfl, rfl⟩ (H.sel' [2, 4] rfl rfl)

theorem c_slices_insertionSortCmpFunc_int__impl_ProbeOrder_1 {data_0 : List Int} {a_1 : Int} {b_2 : Int} {cmp_3_0 : List (List Int)} {cmp_3_1 : List Int} {adata_0 : Option Addr} {cdata_0 : Nat} {acmp_3_0 : Option Addr} {ccmp_3_0 : Nat} {locmp_3_0 bcmp_3_0 ocmp_3_0 : Nat} {precmp_3_0 sufcmp_3_0 : List Value} {acmp_3_1 : Option Addr} {ccmp_3_1 : Nat} {locmp_3_1 bcmp_3_1 ocmp_3_1 : Nat} {precmp_3_1 sufcmp_3_1 : List Value} {r : (List Int)} (h : M.slices_insertionSortCmpFunc_int__impl_ProbeOrder_1 data_0 a_1 b_2 cmp_3_0 cmp_3_1 = some r) :
    Cal2 Try.prog 115 [(Sl adata_0 data_0 cdata_0), (I a_1), (I b_2), (.func (.func 63) #[] #[(pt bcmp_3_0 ocmp_3_0), (pt bcmp_3_1 ocmp_3_1)])] [Ch.own 0 0 (Sl adata_0 data_0 cdata_0) data_0, Ch.bx locmp_3_0 bcmp_3_0 ocmp_3_0 [(Sl acmp_3_0 cmp_3_0 ccmp_3_0)] precmp_3_0 sufcmp_3_0, Ch.ro 0 (Sl acmp_3_0 cmp_3_0 ccmp_3_0) cmp_3_0, Ch.bx locmp_3_1 bcmp_3_1 ocmp_3_1 [(Sl acmp_3_1 cmp_3_1 ccmp_3_1)] precmp_3_1 sufcmp_3_1, Ch.ro 0 (Sl acmp_3_1 cmp_3_1 ccmp_3_1) cmp_3_1] (fun n0 v L => v = (.tuple #[]) ∧ L = [Ch.own 0 0 (Sl adata_0 r cdata_0) r, Ch.bx locmp_3_0 bcmp_3_0 ocmp_3_0 [(Sl acmp_3_0 cmp_3_0 ccmp_3_0)] precmp_3_0 sufcmp_3_0, Ch.bx locmp_3_1 bcmp_3_1 ocmp_3_1 [(Sl acmp_3_1 cmp_3_1 ccmp_3_1)] precmp_3_1 sufcmp_3_1] ∧ r.length = data_0.length) := by
 refine cal2 (n := 53) Try.func115 rfl rfl rfl rfl ?_
 intro S0 σ0 n0 hn0 H
 unfold M.slices_insertionSortCmpFunc_int__impl_ProbeOrder_1 at h
 refine c_seq ?_
 refine rg ?_
 refine st (v := (I a_1)) (rv_move rfl) ?_
 refine st (v := (I (w64 (a_1 + 1)))) (rv_add (a := a_1) (b := 1) rfl rfl) ?_
 refine st (v := (I (w64 (a_1 + 1)))) (rv_assign rfl) ?_
 refine w_end ?_
 refine q_then ?_
 obtain ⟨o1, hj, h'⟩ := bind_some h
 clear h
 refine c_cut (fun e a w => e = .normal ∧ ∃ (ρ : Nat → Value) (σ : St), a = fr 53 (updL ρ [(0, (Sl adata_0 o1 cdata_0)), (3, (.func (.func 63) #[] #[(pt bcmp_3_0 ocmp_3_0), (pt bcmp_3_1 ocmp_3_1)]))]) ∧ w = σ.w ∧ Hp S0 σ0 σ [Ch.own 0 0 (Sl adata_0 o1 cdata_0) o1, Ch.ro 0 (Sl acmp_3_0 cmp_3_0 ccmp_3_0) cmp_3_0, Ch.bx locmp_3_0 bcmp_3_0 ocmp_3_0 [(Sl acmp_3_0 cmp_3_0 ccmp_3_0)] precmp_3_0 sufcmp_3_0, Ch.ro 0 (Sl acmp_3_1 cmp_3_1 ccmp_3_1) cmp_3_1, Ch.bx locmp_3_1 bcmp_3_1 ocmp_3_1 [(Sl acmp_3_1 cmp_3_1 ccmp_3_1)] precmp_3_1 sufcmp_3_1] ∧ o1.length = data_0.length) ?_ ?_
 ·clear h'
  rename _ = some o1 => h
  refine c_blk ?_
  refine wp_loopM _ h (fun s2 a w => ∃ (ρ : Nat → Value) (σ : St), a = fr 53 (updL ρ [(0, (Sl adata_0 s2.1 cdata_0)), (1, (I a_1)), (2, (I b_2)), (3, (.func (.func 63) #[] #[(pt bcmp_3_0 ocmp_3_0), (pt bcmp_3_1 ocmp_3_1)])), (8, (I s2.2))]) ∧ w = σ.w ∧ Hp S0 σ0 σ [Ch.own 0 0 (Sl adata_0 s2.1 cdata_0) s2.1, Ch.ro 0 (Sl acmp_3_0 cmp_3_0 ccmp_3_0) cmp_3_0, Ch.bx locmp_3_0 bcmp_3_0 ocmp_3_0 [(Sl acmp_3_0 cmp_3_0 ccmp_3_0)] precmp_3_0 sufcmp_3_0, Ch.ro 0 (Sl acmp_3_1 cmp_3_1 ccmp_3_1) cmp_3_1, Ch.bx locmp_3_1 bcmp_3_1 ocmp_3_1 [(Sl acmp_3_1 cmp_3_1 ccmp_3_1)] precmp_3_1 sufcmp_3_1] ∧ s2.1.length = data_0.length) ⟨_, σ0, fr_join ⟨rfl, rfl, rfl, rfl, rfl, trivial⟩, rfl, H.sel' [0, 2, 1, 4, 3] rfl rfl, rfl⟩ ?_
  clear h H
  rintro s2 a w o ⟨ρ, σ3, rfl, rfl, H, hn4⟩ h hres
  refine c_seq ?_
  refine c_seq ?_
  refine rg ?_
  refine st (v := (I s2.2)) (rv_move rfl) ?_
  refine st (v := (I b_2)) (rv_move rfl) ?_
  refine st (v := (B (decide (s2.2 < b_2)))) (rv_lss (a := s2.2) (b := b_2) rfl rfl) ?_
  refine w_end ?_
  refine q_then ?_
  refine cd_cond (decide (s2.2 < b_2)) rfl (fun hb5 => ?_) (fun hb5 => ?_)
  ·replace h := bif_t hb5 h
   refine c_skip ?_
   refine q_then ?_
   refine c_seq ?_
   refine c_blk ?_
   refine c_seq ?_
   refine rg ?_
   refine st (v := (I s2.2)) (rv_move rfl) ?_
   refine st (v := (I s2.2)) (rv_assign rfl) ?_
   refine w_end ?_
   refine q_then ?_
   obtain ⟨o6, hj, h'⟩ := bind_some h
   clear h
   refine c_cut (fun e a w => e = .normal ∧ ∃ (ρ : Nat → Value) (σ : St), a = fr 53 (updL ρ [(0, (Sl adata_0 o6 cdata_0)), (1, (I a_1)), (2, (I b_2)), (3, (.func (.func 63) #[] #[(pt bcmp_3_0 ocmp_3_0), (pt bcmp_3_1 ocmp_3_1)])), (8, (I s2.2))]) ∧ w = σ.w ∧ Hp S0 σ0 σ [Ch.own 0 0 (Sl adata_0 o6 cdata_0) o6, Ch.ro 0 (Sl acmp_3_0 cmp_3_0 ccmp_3_0) cmp_3_0, Ch.bx locmp_3_0 bcmp_3_0 ocmp_3_0 [(Sl acmp_3_0 cmp_3_0 ccmp_3_0)] precmp_3_0 sufcmp_3_0, Ch.ro 0 (Sl acmp_3_1 cmp_3_1 ccmp_3_1) cmp_3_1, Ch.bx locmp_3_1 bcmp_3_1 ocmp_3_1 [(Sl acmp_3_1 cmp_3_1 ccmp_3_1)] precmp_3_1 sufcmp_3_1] ∧ o6.length = s2.1.length) ?_ ?_
   ·clear h'
    rename _ = some o6 => h
    refine c_blk ?_
    refine wp_loopM _ h (fun s7 a w => ∃ (ρ : Nat → Value) (σ : St), a = fr 53 (updL ρ [(0, (Sl adata_0 s7.1 cdata_0)), (1, (I a_1)), (2, (I b_2)), (3, (.func (.func 63) #[] #[(pt bcmp_3_0 ocmp_3_0), (pt bcmp_3_1 ocmp_3_1)])), (8, (I s2.2)), (9, (I s7.2))]) ∧ w = σ.w ∧ Hp S0 σ0 σ [Ch.own 0 0 (Sl adata_0 s7.1 cdata_0) s7.1, Ch.ro 0 (Sl acmp_3_0 cmp_3_0 ccmp_3_0) cmp_3_0, Ch.bx locmp_3_0 bcmp_3_0 ocmp_3_0 [(Sl acmp_3_0 cmp_3_0 ccmp_3_0)] precmp_3_0 sufcmp_3_0, Ch.ro 0 (Sl acmp_3_1 cmp_3_1 ccmp_3_1) cmp_3_1, Ch.bx locmp_3_1 bcmp_3_1 ocmp_3_1 [(Sl acmp_3_1 cmp_3_1 ccmp_3_1)] precmp_3_1 sufcmp_3_1] ∧ s7.1.length = s2.1.length) ⟨_, σ3, fr_join ⟨rfl, rfl, rfl, rfl, rfl, rfl, trivial⟩, rfl, H.sel' [0, 1, 2, 3, 4] rfl rfl, rfl⟩ ?_
    clear h H
    rintro s7 a w o ⟨ρ, σ8, rfl, rfl, H, hn9⟩ h hres
    refine c_seq ?_
    refine c_seq ?_
    obtain ⟨o10, hj, h'⟩ := bind_some h
    clear h
    refine c_cut (fun e a w => e = .normal ∧ ∃ (ρ : Nat → Value) (σ : St), a = fr 53 (updL ρ [(0, (Sl adata_0 s7.1 cdata_0)), (1, (I a_1)), (2, (I b_2)), (3, (.func (.func 63) #[] #[(pt bcmp_3_0 ocmp_3_0), (pt bcmp_3_1 ocmp_3_1)])), (8, (I s2.2)), (9, (I s7.2)), (34, (B o10))]) ∧ w = σ.w ∧ Hp S0 σ0 σ [Ch.own 0 0 (Sl adata_0 s7.1 cdata_0) s7.1, Ch.ro 0 (Sl acmp_3_0 cmp_3_0 ccmp_3_0) cmp_3_0, Ch.bx locmp_3_0 bcmp_3_0 ocmp_3_0 [(Sl acmp_3_0 cmp_3_0 ccmp_3_0)] precmp_3_0 sufcmp_3_0, Ch.ro 0 (Sl acmp_3_1 cmp_3_1 ccmp_3_1) cmp_3_1, Ch.bx locmp_3_1 bcmp_3_1 ocmp_3_1 [(Sl acmp_3_1 cmp_3_1 ccmp_3_1)] precmp_3_1 sufcmp_3_1]) ?_ ?_
    ·clear h'
     rename _ = some o10 => h
     refine rgP (σ := σ8) 14 (by kernel_rfl) (by kernel_rfl) (by kernel_rfl) ?_
     refine sq (v := (I s7.2)) (rv_move rfl) ?_
     refine sq (v := (I a_1)) (rv_move rfl) ?_
     refine sq (v := (B (decide (a_1 < s7.2)))) (rv_gtr (a := s7.2) (b := a_1) rfl rfl) ?_
     refine sq (v := (B (decide (a_1 < s7.2)))) (rv_move rfl) ?_
     rcases Bool.eq_false_or_eq_true (decide (a_1 < s7.2)) with hb11 | hb11
     ·replace h := bif_t hb11 h
      refine sq_g (v := (.func (.func 63) #[] #[(pt bcmp_3_0 ocmp_3_0), (pt bcmp_3_1 ocmp_3_1)])) (congrArg some hb11) (rv_move rfl) ?_
      refine sq_g (v := (Sl adata_0 s7.1 cdata_0)) (congrArg some hb11) (rv_move rfl) ?_
      refine sq_g (v := (I s7.2)) (congrArg some hb11) (rv_move rfl) ?_
      obtain ⟨x12, hx13, h'⟩ := bind_some h
      clear h
      have h := h'; clear h'
      obtain ⟨b15, o16, hi14, -⟩ := (H.own 0 rfl).ix hx13
      refine sq_g (v := (pt b15 o16)) (congrArg some hb11) (rv_ix Try.underlying29 ti3 rfl rfl hi14) ?_
      have hc17 := ((H.own 0 rfl).at hx13 hi14).int
      refine sq_g (v := (I x12)) (congrArg some hb11) (rv_load1 Try.underlying3 rfl rfl hc17) ?_
      refine sq_g (v := (Sl adata_0 s7.1 cdata_0)) (congrArg some hb11) (rv_move rfl) ?_
      refine sq_g (v := (I s7.2)) (congrArg some hb11) (rv_move rfl) ?_
      refine sq_g (v := (I (w64 (s7.2 - 1)))) (congrArg some hb11) (rv_sub (a := s7.2) (b := 1) rfl rfl) ?_
      obtain ⟨x18, hx19, h'⟩ := bind_some h
      clear h
      have h := h'; clear h'
      obtain ⟨b21, o22, hi20, -⟩ := (H.own 0 rfl).ix hx19
      refine sq_g (v := (pt b21 o22)) (congrArg some hb11) (rv_ix Try.underlying29 ti3 rfl rfl hi20) ?_
      have hc23 := ((H.own 0 rfl).at hx19 hi20).int
      refine sq_g (v := (I x18)) (congrArg some hb11) (rv_load1 Try.underlying3 rfl rfl hc23) ?_
      refine sq_end ?_
      intro σ24 hm25
      replace H := H.grow (hm25.mono fun _ h => h); clear hm25
      obtain ⟨r26, hx27, h'⟩ := bind_some h
      clear h
      have h := h'; clear h'
      have hc28 := c_impl_ProbeOrder_1__p_SSint__p24 (lop_2 := locmp_3_0) (bp_2 := bcmp_3_0) (op_2 := ocmp_3_0) (prep_2 := precmp_3_0) (sufp_2 := sufcmp_3_0) (ap_2 := acmp_3_0) (cp_2 := ccmp_3_0) (lop_3 := locmp_3_1) (bp_3 := bcmp_3_1) (op_3 := ocmp_3_1) (prep_3 := precmp_3_1) (sufp_3 := sufcmp_3_1) (ap_3 := acmp_3_1) (cp_3 := ccmp_3_1) hx27
      refine st_call (cx_call hc28 (ent_v (cap := [(pt bcmp_3_0 ocmp_3_0), (pt bcmp_3_1 ocmp_3_1)]) hc28.fn rfl rfl) hn0 (show Hp S0 σ0 _ ([Ch.bx locmp_3_0 bcmp_3_0 ocmp_3_0 [(Sl acmp_3_0 cmp_3_0 ccmp_3_0)] precmp_3_0 sufcmp_3_0, Ch.ro 0 (Sl acmp_3_0 cmp_3_0 ccmp_3_0) cmp_3_0, Ch.bx locmp_3_1 bcmp_3_1 ocmp_3_1 [(Sl acmp_3_1 cmp_3_1 ccmp_3_1)] precmp_3_1 sufcmp_3_1, Ch.ro 0 (Sl acmp_3_1 cmp_3_1 ccmp_3_1) cmp_3_1] ++ [Ch.own 0 0 (Sl adata_0 s7.1 cdata_0) s7.1, Ch.ro 0 (Sl acmp_3_0 cmp_3_0 ccmp_3_0) cmp_3_0, Ch.ro 0 (Sl acmp_3_1 cmp_3_1 ccmp_3_1) cmp_3_1]) from (H.sel' [2, 1, 4, 3, 0, 1, 3] rfl rfl))) (wanted_yes rfl (by exact (congrArg some hb11))) ?_
      rintro _ σ29 ⟨_, ⟨rfl, rfl⟩, H, -⟩
      replace H : Hp S0 σ0 σ29 [Ch.bx locmp_3_0 bcmp_3_0 ocmp_3_0 [(Sl acmp_3_0 cmp_3_0 ccmp_3_0)] precmp_3_0 sufcmp_3_0, Ch.bx locmp_3_1 bcmp_3_1 ocmp_3_1 [(Sl acmp_3_1 cmp_3_1 ccmp_3_1)] precmp_3_1 sufcmp_3_1, Ch.own 0 0 (Sl adata_0 s7.1 cdata_0) s7.1, Ch.ro 0 (Sl acmp_3_0 cmp_3_0 ccmp_3_0) cmp_3_0, Ch.ro 0 (Sl acmp_3_1 cmp_3_1 ccmp_3_1) cmp_3_1] := H
      refine st_g (v := (B (decide (r26 < 0)))) (congrArg some hb11) (rv_lss (a := r26) (b := 0) rfl rfl) ?_
      refine st (v := (B (decide (r26 < 0)))) (rv_pick_t (congrArg B hb11) rfl) ?_
      refine w_end ?_
      obtain rfl := Option.some.inj h
      exact ⟨rfl, _, σ29, fr_join ⟨rfl, rfl, rfl, rfl, rfl, rfl, rfl, trivial⟩, rfl, H.sel' [2, 3, 0, 4, 1] rfl rfl⟩
     ·replace h := bif_f hb11 h
      refine sq_skip (congrArg some hb11) ?_
      refine sq_skip (congrArg some hb11) ?_
      refine sq_skip (congrArg some hb11) ?_
      refine sq_skip (congrArg some hb11) ?_
      refine sq_skip (congrArg some hb11) ?_
      refine sq_skip (congrArg some hb11) ?_
      refine sq_skip (congrArg some hb11) ?_
      refine sq_skip (congrArg some hb11) ?_
      refine sq_skip (congrArg some hb11) ?_
      refine sq_skip (congrArg some hb11) ?_
      refine sq_end ?_
      intro σ30 hm31
      replace H := H.grow (hm31.mono fun _ h => h); clear hm31
      refine st_skip (congrArg some hb11) ?_
      refine st_skip (congrArg some hb11) ?_
      refine st (v := (B false)) (rv_pick_f (congrArg B hb11) rfl) ?_
      refine w_end ?_
      obtain rfl := Option.some.inj h
      exact ⟨rfl, _, σ30, fr_join ⟨rfl, rfl, rfl, rfl, rfl, rfl, rfl, trivial⟩, rfl, H.sel' [0, 1, 2, 3, 4] rfl rfl⟩
    ·clear hj
     have h := h'
     clear h' H
     rintro e a w ⟨rfl, ρ, σ32, rfl, rfl, H⟩
     refine q_then ?_
     refine cd_cond o10 rfl (fun hb33 => ?_) (fun hb33 => ?_)
     ·replace h := bif_t hb33 h
      refine c_skip ?_
      refine q_then ?_
      refine c_seq ?_
      refine c_blk ?_
      obtain ⟨x34, hx35, h'⟩ := bind_some h
      clear h
      have h := h'; clear h'
      obtain ⟨b37, o38, hi36, -⟩ := (H.own 0 rfl).ix hx35
      have hc39 := ((H.own 0 rfl).at hx35 hi36).int
      obtain ⟨x40, hx41, h'⟩ := bind_some h
      clear h
      have h := h'; clear h'
      obtain ⟨b43, o44, hi42, -⟩ := (H.own 0 rfl).ix hx41
      have hc45 := ((H.own 0 rfl).at hx41 hi42).int
      obtain ⟨x46, hx47, h'⟩ := bind_some h
      clear h
      have h := h'; clear h'
      obtain ⟨b49, o50, hi48, -⟩ := (H.own 0 rfl).ix hx47
      have Hs := H
      refine rg2 (σ := σ32) (Nm := Unit) 16 [15] [[false], [true]] [[(0, 0)], [(0, 0)], [(0, 0), (1, 1)], [(0, 0), (1, 1)], [(0, 0), (1, 1)], [(0, 0)], [(0, 0)], [(0, 0)], [(0, 0)], [(0, 0)], [(0, 0)], [(0, 0)], [(0, 0)], [(0, 0)], [(0, 0)], [(0, 1)]] 1 [fun _ => fun σm => Hp S0 σ0 σm [Ch.own 0 0 (Sl adata_0 s7.1 cdata_0) s7.1, Ch.ro 0 (Sl acmp_3_0 cmp_3_0 ccmp_3_0) cmp_3_0, Ch.bx locmp_3_0 bcmp_3_0 ocmp_3_0 [(Sl acmp_3_0 cmp_3_0 ccmp_3_0)] precmp_3_0 sufcmp_3_0, Ch.ro 0 (Sl acmp_3_1 cmp_3_1 ccmp_3_1) cmp_3_1, Ch.bx locmp_3_1 bcmp_3_1 ocmp_3_1 [(Sl acmp_3_1 cmp_3_1 ccmp_3_1)] precmp_3_1 sufcmp_3_1] ∧ Md (cov []) σ32 σm, fun _ => fun σm => Hp S0 σ0 σm [Ch.own 0 0 (Sl adata_0 s7.1 cdata_0) (s7.1.set s7.2.toNat x34), Ch.ro 0 (Sl acmp_3_0 cmp_3_0 ccmp_3_0) cmp_3_0, Ch.bx locmp_3_0 bcmp_3_0 ocmp_3_0 [(Sl acmp_3_0 cmp_3_0 ccmp_3_0)] precmp_3_0 sufcmp_3_0, Ch.ro 0 (Sl acmp_3_1 cmp_3_1 ccmp_3_1) cmp_3_1, Ch.bx locmp_3_1 bcmp_3_1 ocmp_3_1 [(Sl acmp_3_1 cmp_3_1 ccmp_3_1)] precmp_3_1 sufcmp_3_1] ∧ Md (fun i => (cov []) i ∨ (fun b => blk (Sl adata_0 s7.1 cdata_0) = some b) i) σ32 σm] [fun _ => (Sl adata_0 s7.1 cdata_0), fun _ => (I s7.2), fun _ => (Sl adata_0 s7.1 cdata_0), fun _ => (I s7.2), fun _ => (I (w64 (s7.2 - 1))), fun _ => (Sl adata_0 s7.1 cdata_0), fun _ => (I s7.2), fun _ => (I (w64 (s7.2 - 1))), fun _ => (pt b37 o38), fun _ => (I x34), fun _ => (Sl adata_0 s7.1 cdata_0), fun _ => (I s7.2), fun _ => (pt b43 o44), fun _ => (I x40), fun _ => (pt b49 o50), fun _ => undef] () (by kernel_rfl) (by kernel_rfl) ?_ ?_ ?_
      ·intro σm m0
       exact ⟨H.grow (m0.mono fun _ h => h.elim), m0⟩
      ·refine ac rfl (by
         intro k _nm ρ σm hJ hoff hdep
         have e0 := look_off (N := 53) (hoff 0 rfl) rfl
         exact dp_v (v := (Sl adata_0 s7.1 cdata_0)) wn (rv_move e0) rfl hJ) ?_
       refine ac rfl (by
         intro k _nm ρ σm hJ hoff hdep
         have e9 := look_off (N := 53) (hoff 9 rfl) rfl
         exact dp_v (v := (I s7.2)) wn (rv_move e9) rfl hJ) ?_
       refine ac rfl (by
         intro k _nm ρ σm hJ hoff hdep
         have e0 := look_off (N := 53) (hoff 0 rfl) rfl
         exact dp_v (v := (Sl adata_0 s7.1 cdata_0)) wn (rv_move e0) rfl hJ) ?_
       refine ac rfl (by
         intro k _nm ρ σm hJ hoff hdep
         have e9 := look_off (N := 53) (hoff 9 rfl) rfl
         exact dp_v (v := (I s7.2)) wn (rv_move e9) rfl hJ) ?_
       refine ac rfl (by
         intro k _nm ρ σm hJ hoff hdep
         have e40 := hdep 3 rfl rfl 40 rfl
         exact dp_v (v := (I (w64 (s7.2 - 1)))) wn (rv_sub (a := s7.2) (b := 1) e40 rfl) rfl hJ) ?_
       refine ac rfl (by
         intro k _nm ρ σm hJ hoff hdep
         have e0 := look_off (N := 53) (hoff 0 rfl) rfl
         exact dp_v (v := (Sl adata_0 s7.1 cdata_0)) wn (rv_move e0) rfl hJ) ?_
       refine ac rfl (by
         intro k _nm ρ σm hJ hoff hdep
         have e9 := look_off (N := 53) (hoff 9 rfl) rfl
         exact dp_v (v := (I s7.2)) wn (rv_move e9) rfl hJ) ?_
       refine ac rfl (by
         intro k _nm ρ σm hJ hoff hdep
         have e43 := hdep 6 rfl rfl 43 rfl
         exact dp_v (v := (I (w64 (s7.2 - 1)))) wn (rv_sub (a := s7.2) (b := 1) e43 rfl) rfl hJ) ?_
       refine ac rfl (by
         intro k _nm ρ σm hJ hoff hdep
         have e42 := hdep 5 rfl rfl 42 rfl
         have e44 := hdep 7 rfl rfl 44 rfl
         exact dp_v (v := (pt b37 o38)) wn (rv_ix Try.underlying29 ti3 e42 e44 hi36) rfl hJ) ?_
       refine all_cons (by
         refine ⟨?_, ?_⟩
         ·intro _nm ρ σm hJ hoff hdep
          have e45 := hdep 8 rfl rfl 45 rfl
          obtain ⟨H, m⟩ := id hJ
          have hc39 := ((H.own 0 rfl).at hx35 hi36).int
          exact dp_v (v := (I x34)) wn (rv_load1 Try.underlying3 rfl e45 hc39) rfl hJ
         trivial) ?_
       refine ac rfl (by
         intro k _nm ρ σm hJ hoff hdep
         have e0 := look_off (N := 53) (hoff 0 rfl) rfl
         exact dp_v (v := (Sl adata_0 s7.1 cdata_0)) wn (rv_move e0) rfl hJ) ?_
       refine ac rfl (by
         intro k _nm ρ σm hJ hoff hdep
         have e9 := look_off (N := 53) (hoff 9 rfl) rfl
         exact dp_v (v := (I s7.2)) wn (rv_move e9) rfl hJ) ?_
       refine ac rfl (by
         intro k _nm ρ σm hJ hoff hdep
         have e47 := hdep 10 rfl rfl 47 rfl
         have e48 := hdep 11 rfl rfl 48 rfl
         exact dp_v (v := (pt b43 o44)) wn (rv_ix Try.underlying29 ti3 e47 e48 hi42) rfl hJ) ?_
       refine all_cons (by
         refine ⟨?_, ?_⟩
         ·intro _nm ρ σm hJ hoff hdep
          have e49 := hdep 12 rfl rfl 49 rfl
          obtain ⟨H, m⟩ := id hJ
          have hc45 := ((H.own 0 rfl).at hx41 hi42).int
          exact dp_v (v := (I x40)) wn (rv_load1 Try.underlying3 rfl e49 hc45) rfl hJ
         trivial) ?_
       refine ac rfl (by
         intro k _nm ρ σm hJ hoff hdep
         have e37 := hdep 0 rfl rfl 37 rfl
         have e38 := hdep 1 rfl rfl 38 rfl
         exact dp_v (v := (pt b49 o50)) wn (rv_ix Try.underlying29 ti3 e37 e38 hi48) rfl hJ) ?_
       refine all_cons (by
         refine ⟨?_, ?_⟩
         ·intro _nm ρ σm hJ hoff hdep
          have e51 := hdep 14 rfl rfl 51 rfl
          have e46 := hdep 9 rfl rfl 46 rfl
          obtain ⟨H, m⟩ := id hJ
          refine dp_exS wn rfl (ex_store_own (e' := x34) (vs := [(I x34)]) (k := 0) H (i := 0) rfl ti3 hx47 hi48 e51 rfl e46 rfl rfl (Nat.le_of_ble_eq_true rfl) (by simp [plain]) (by rintro _ rfl; exact rfl)) ?_
          rintro σq ⟨H2, m2⟩
          exact ⟨_, (), rfl, ⟨H2.sel' [0, 1, 2, 3, 4] rfl rfl, m.comp m2⟩, stab [0, 1, 2, 3, 4, 5, 6, 7, 8, 9, 10, 11, 12, 13, 14] (by kernel_rfl) ⟨rfl, rfl, rfl, rfl, rfl, rfl, rfl, rfl, rfl, rfl, rfl, rfl, rfl, rfl, rfl, trivial⟩⟩
         trivial) ?_
       exact all_nil
      ·intro _nm ρ σ51 hJ hoff hrel
       have e0 := look_off (N := 53) (hoff 0 rfl) rfl
       have e1 := look_off (N := 53) (hoff 1 rfl) rfl
       have e2 := look_off (N := 53) (hoff 2 rfl) rfl
       have e3 := look_off (N := 53) (hoff 3 rfl) rfl
       have e8 := look_off (N := 53) (hoff 8 rfl) rfl
       have e9 := look_off (N := 53) (hoff 9 rfl) rfl
       have e39 := hrel 2 rfl 39 rfl
       have e41 := hrel 4 rfl 41 rfl
       have e50 := hrel 13 rfl 50 rfl
       obtain ⟨H, -⟩ := (show Hp S0 σ0 σ51 [Ch.own 0 0 (Sl adata_0 s7.1 cdata_0) (s7.1.set s7.2.toNat x34), Ch.ro 0 (Sl acmp_3_0 cmp_3_0 ccmp_3_0) cmp_3_0, Ch.bx locmp_3_0 bcmp_3_0 ocmp_3_0 [(Sl acmp_3_0 cmp_3_0 ccmp_3_0)] precmp_3_0 sufcmp_3_0, Ch.ro 0 (Sl acmp_3_1 cmp_3_1 ccmp_3_1) cmp_3_1, Ch.bx locmp_3_1 bcmp_3_1 ocmp_3_1 [(Sl acmp_3_1 cmp_3_1 ccmp_3_1)] precmp_3_1 sufcmp_3_1] ∧ Md (fun i => (cov []) i ∨ (fun b => blk (Sl adata_0 s7.1 cdata_0) = some b) i) σ32 σ51 from hJ)
       clear hJ Hs
       rw [fr_lookL (L := [(0, (Sl adata_0 s7.1 cdata_0)), (1, (I a_1)), (2, (I b_2)), (3, (.func (.func 63) #[] #[(pt bcmp_3_0 ocmp_3_0), (pt bcmp_3_1 ocmp_3_1)])), (8, (I s2.2)), (9, (I s7.2)), (39, (Sl adata_0 s7.1 cdata_0)), (41, (I (w64 (s7.2 - 1)))), (50, (I x40))]) ⟨e0, e1, e2, e3, e8, e9, e39, e41, e50, trivial⟩]
       clear hoff hrel e0 e1 e2 e3 e8 e9 e39 e41 e50
       have hsl : (Sl adata_0 s7.1 cdata_0) = (Sl adata_0 (s7.1.set s7.2.toNat x34) cdata_0) := sl_len (by simp)
       rw [hsl]; rw [hsl] at H; clear hsl
       obtain ⟨x52, hx53, h'⟩ := bind_some h
       clear h
       have h := h'; clear h'
       obtain ⟨b55, o56, hi54, -⟩ := (H.own 0 rfl).ix hx53
       refine st (v := (pt b55 o56)) (rv_ix Try.underlying29 ti3 rfl rfl hi54) ?_
       refine st_exS (ex_store_own (e' := x40) (vs := [(I x40)]) (k := 0) H (i := 0) rfl ti3 hx53 hi54 rfl rfl rfl rfl rfl (Nat.le_of_ble_eq_true rfl) (by simp [plain]) (by rintro _ rfl; exact rfl)) wn ?_
       rintro σ57 ⟨H, -⟩
       have hsl : (Sl adata_0 (s7.1.set s7.2.toNat x34) cdata_0) = (Sl adata_0 ((s7.1.set s7.2.toNat x34).set (w64 (s7.2 - 1)).toNat x40) cdata_0) := sl_len List.length_set.symm
       rw [hsl]; rw [hsl] at H; clear hsl
       refine w_end ?_
       refine q_blk ?_
       refine q_then ?_
       refine rg ?_
       refine st (v := (I s7.2)) (rv_move rfl) ?_
       refine st (v := (I (w64 (s7.2 - 1)))) (rv_sub (a := s7.2) (b := 1) rfl rfl) ?_
       refine st (v := (I (w64 (s7.2 - 1)))) (rv_assign rfl) ?_
       refine w_end ?_
       refine q_then ?_
       obtain rfl := Option.some.inj h
       exact ⟨_, rfl, _, σ57, fr_join ⟨rfl, rfl, rfl, rfl, rfl, rfl, trivial⟩, rfl, H.sel' [0, 1, 2, 3, 4] rfl rfl, ((List.length_set.trans (List.length_set.trans (hn9.trans hn4))).trans hn4.symm)⟩
     ·replace h := bif_f hb33 h
      refine c_exit ?_
      refine q_then_x ?_
      refine q_then_x ?_
      refine q_blk_hit ?_
      obtain rfl := Option.some.inj h
      obtain rfl := hres _ rfl
      exact ⟨rfl, _, σ32, fr_join ⟨rfl, rfl, rfl, rfl, rfl, trivial⟩, rfl, H.sel' [0, 1, 2, 3, 4] rfl rfl, ((hn9.trans hn4).trans hn4.symm)⟩
   ·clear hj
    have h := h'
    clear h' H
    rintro e a w ⟨rfl, ρ, σ58, rfl, rfl, H, hn59⟩
    refine q_blk ?_
    refine q_then ?_
    refine rg ?_
    refine st (v := (I s2.2)) (rv_move rfl) ?_
    refine st (v := (I (w64 (s2.2 + 1)))) (rv_add (a := s2.2) (b := 1) rfl rfl) ?_
    refine st (v := (I (w64 (s2.2 + 1)))) (rv_assign rfl) ?_
    refine w_end ?_
    refine q_then ?_
    obtain rfl := Option.some.inj h
    exact ⟨_, rfl, _, σ58, fr_join ⟨rfl, rfl, rfl, rfl, rfl, trivial⟩, rfl, H.sel' [0, 1, 2, 3, 4] rfl rfl, (hn59.trans hn4)⟩
  ·replace h := bif_f hb5 h
   refine c_exit ?_
   refine q_then_x ?_
   refine q_then_x ?_
   refine q_blk_hit ?_
   obtain rfl := Option.some.inj h
   obtain rfl := hres _ rfl
   exact ⟨rfl, _, σ3, fr_join ⟨rfl, rfl, trivial⟩, rfl, H.sel' [0, 1, 2, 3, 4] rfl rfl, hn4⟩
 ·clear hj
  have h := h'
  clear h' H
  rintro e a w ⟨rfl, ρ, σ60, rfl, rfl, H, hn61⟩
  obtain rfl := Option.some.inj h
  exact fin_end (v := (.tuple #[])) (results_ok Try.results115 res_nil rfl) ⟨rfl, rfl, hn61⟩ (H.sel' [0, 2, 4] rfl rfl)

theorem c_slices_swapRangeCmpFunc_int__impl_ProbeOrder_1 {data_0 : List Int} {a_1 : Int} {b_2 : Int} {n_3 : Int} {cmp_4_0 : List (List Int)} {cmp_4_1 : List Int} {adata_0 : Option Addr} {cdata_0 : Nat} {acmp_4_0 : Option Addr} {ccmp_4_0 : Nat} {locmp_4_0 bcmp_4_0 ocmp_4_0 : Nat} {precmp_4_0 sufcmp_4_0 : List Value} {acmp_4_1 : Option Addr} {ccmp_4_1 : Nat} {locmp_4_1 bcmp_4_1 ocmp_4_1 : Nat} {precmp_4_1 sufcmp_4_1 : List Value} {r : (List Int)} (h : M.slices_swapRangeCmpFunc_int__impl_ProbeOrder_1 data_0 a_1 b_2 n_3 cmp_4_0 cmp_4_1 = some r) :
    Cal2 Try.prog 123 [(Sl adata_0 data_0 cdata_0), (I a_1), (I b_2), (I n_3), (.func (.func 63) #[] #[(pt bcmp_4_0 ocmp_4_0), (pt bcmp_4_1 ocmp_4_1)])] [Ch.own 0 0 (Sl adata_0 data_0 cdata_0) data_0, Ch.bx locmp_4_0 bcmp_4_0 ocmp_4_0 [(Sl acmp_4_0 cmp_4_0 ccmp_4_0)] precmp_4_0 sufcmp_4_0, Ch.ro 0 (Sl acmp_4_0 cmp_4_0 ccmp_4_0) cmp_4_0, Ch.bx locmp_4_1 bcmp_4_1 ocmp_4_1 [(Sl acmp_4_1 cmp_4_1 ccmp_4_1)] precmp_4_1 sufcmp_4_1, Ch.ro 0 (Sl acmp_4_1 cmp_4_1 ccmp_4_1) cmp_4_1] (fun n0 v L => v = (.tuple #[]) ∧ L = [Ch.own 0 0 (Sl adata_0 r cdata_0) r, Ch.bx locmp_4_0 bcmp_4_0 ocmp_4_0 [(Sl acmp_4_0 cmp_4_0 ccmp_4_0)] precmp_4_0 sufcmp_4_0, Ch.bx locmp_4_1 bcmp_4_1 ocmp_4_1 [(Sl acmp_4_1 cmp_4_1 ccmp_4_1)] precmp_4_1 sufcmp_4_1] ∧ r.length = data_0.length) := by
 refine cal2 (n := 38) Try.func123 rfl rfl rfl rfl ?_
 intro S0 σ0 n0 hn0 H
 unfold M.slices_swapRangeCmpFunc_int__impl_ProbeOrder_1 at h
 refine c_seq ?_
 refine rg ?_
 refine st (v := (I 0)) (rv_assign rfl) ?_
 refine w_end ?_
 refine q_then ?_
 obtain ⟨o1, hj, h'⟩ := bind_some h
 clear h
 refine c_cut (fun e a w => e = .normal ∧ ∃ (ρ : Nat → Value) (σ : St), a = fr 38 (updL ρ [(0, (Sl adata_0 o1 cdata_0)), (4, (.func (.func 63) #[] #[(pt bcmp_4_0 ocmp_4_0), (pt bcmp_4_1 ocmp_4_1)]))]) ∧ w = σ.w ∧ Hp S0 σ0 σ [Ch.own 0 0 (Sl adata_0 o1 cdata_0) o1, Ch.ro 0 (Sl acmp_4_0 cmp_4_0 ccmp_4_0) cmp_4_0, Ch.bx locmp_4_0 bcmp_4_0 ocmp_4_0 [(Sl acmp_4_0 cmp_4_0 ccmp_4_0)] precmp_4_0 sufcmp_4_0, Ch.ro 0 (Sl acmp_4_1 cmp_4_1 ccmp_4_1) cmp_4_1, Ch.bx locmp_4_1 bcmp_4_1 ocmp_4_1 [(Sl acmp_4_1 cmp_4_1 ccmp_4_1)] precmp_4_1 sufcmp_4_1] ∧ o1.length = data_0.length) ?_ ?_
 ·clear h'
  rename _ = some o1 => h
  refine c_blk ?_
  refine wp_loopM _ h (fun s2 a w => ∃ (ρ : Nat → Value) (σ : St), a = fr 38 (updL ρ [(0, (Sl adata_0 s2.1 cdata_0)), (1, (I a_1)), (2, (I b_2)), (3, (I n_3)), (4, (.func (.func 63) #[] #[(pt bcmp_4_0 ocmp_4_0), (pt bcmp_4_1 ocmp_4_1)])), (10, (I s2.2))]) ∧ w = σ.w ∧ Hp S0 σ0 σ [Ch.own 0 0 (Sl adata_0 s2.1 cdata_0) s2.1, Ch.ro 0 (Sl acmp_4_0 cmp_4_0 ccmp_4_0) cmp_4_0, Ch.bx locmp_4_0 bcmp_4_0 ocmp_4_0 [(Sl acmp_4_0 cmp_4_0 ccmp_4_0)] precmp_4_0 sufcmp_4_0, Ch.ro 0 (Sl acmp_4_1 cmp_4_1 ccmp_4_1) cmp_4_1, Ch.bx locmp_4_1 bcmp_4_1 ocmp_4_1 [(Sl acmp_4_1 cmp_4_1 ccmp_4_1)] precmp_4_1 sufcmp_4_1] ∧ s2.1.length = data_0.length) ⟨_, σ0, fr_join ⟨rfl, rfl, rfl, rfl, rfl, rfl, trivial⟩, rfl, H.sel' [0, 2, 1, 4, 3] rfl rfl, rfl⟩ ?_
  clear h H
  rintro s2 a w o ⟨ρ, σ3, rfl, rfl, H, hn4⟩ h hres
  refine c_seq ?_
  refine c_seq ?_
  refine rg ?_
  refine st (v := (I s2.2)) (rv_move rfl) ?_
  refine st (v := (I n_3)) (rv_move rfl) ?_
  refine st (v := (B (decide (s2.2 < n_3)))) (rv_lss (a := s2.2) (b := n_3) rfl rfl) ?_
  refine w_end ?_
  refine q_then ?_
  refine cd_cond (decide (s2.2 < n_3)) rfl (fun hb5 => ?_) (fun hb5 => ?_)
  ·replace h := bif_t hb5 h
   refine c_skip ?_
   refine q_then ?_
   refine c_seq ?_
   refine c_blk ?_
   obtain ⟨x6, hx7, h'⟩ := bind_some h
   clear h
   have h := h'; clear h'
   obtain ⟨b9, o10, hi8, -⟩ := (H.own 0 rfl).ix hx7
   have hc11 := ((H.own 0 rfl).at hx7 hi8).int
   obtain ⟨x12, hx13, h'⟩ := bind_some h
   clear h
   have h := h'; clear h'
   obtain ⟨b15, o16, hi14, -⟩ := (H.own 0 rfl).ix hx13
   have hc17 := ((H.own 0 rfl).at hx13 hi14).int
   obtain ⟨x18, hx19, h'⟩ := bind_some h
   clear h
   have h := h'; clear h'
   obtain ⟨b21, o22, hi20, -⟩ := (H.own 0 rfl).ix hx19
   have Hs := H
   refine rg2 (σ := σ3) (Nm := Unit) 22 [21] [[false], [true]] [[(0, 0)], [(0, 0)], [(0, 0)], [(0, 0)], [(0, 0), (1, 1)], [(0, 0), (1, 1)], [(0, 0), (1, 1)], [(0, 0), (1, 1)], [(0, 0)], [(0, 0)], [(0, 0)], [(0, 0)], [(0, 0)], [(0, 0)], [(0, 0)], [(0, 0)], [(0, 0)], [(0, 0)], [(0, 0)], [(0, 0)], [(0, 0)], [(0, 1)]] 1 [fun _ => fun σm => Hp S0 σ0 σm [Ch.own 0 0 (Sl adata_0 s2.1 cdata_0) s2.1, Ch.ro 0 (Sl acmp_4_0 cmp_4_0 ccmp_4_0) cmp_4_0, Ch.bx locmp_4_0 bcmp_4_0 ocmp_4_0 [(Sl acmp_4_0 cmp_4_0 ccmp_4_0)] precmp_4_0 sufcmp_4_0, Ch.ro 0 (Sl acmp_4_1 cmp_4_1 ccmp_4_1) cmp_4_1, Ch.bx locmp_4_1 bcmp_4_1 ocmp_4_1 [(Sl acmp_4_1 cmp_4_1 ccmp_4_1)] precmp_4_1 sufcmp_4_1] ∧ Md (cov []) σ3 σm, fun _ => fun σm => Hp S0 σ0 σm [Ch.own 0 0 (Sl adata_0 s2.1 cdata_0) (s2.1.set (w64 (a_1 + s2.2)).toNat x6), Ch.ro 0 (Sl acmp_4_0 cmp_4_0 ccmp_4_0) cmp_4_0, Ch.bx locmp_4_0 bcmp_4_0 ocmp_4_0 [(Sl acmp_4_0 cmp_4_0 ccmp_4_0)] precmp_4_0 sufcmp_4_0, Ch.ro 0 (Sl acmp_4_1 cmp_4_1 ccmp_4_1) cmp_4_1, Ch.bx locmp_4_1 bcmp_4_1 ocmp_4_1 [(Sl acmp_4_1 cmp_4_1 ccmp_4_1)] precmp_4_1 sufcmp_4_1] ∧ Md (fun i => (cov []) i ∨ (fun b => blk (Sl adata_0 s2.1 cdata_0) = some b) i) σ3 σm] [fun _ => (Sl adata_0 s2.1 cdata_0), fun _ => (I a_1), fun _ => (I s2.2), fun _ => (I (w64 (a_1 + s2.2))), fun _ => (Sl adata_0 s2.1 cdata_0), fun _ => (I b_2), fun _ => (I s2.2), fun _ => (I (w64 (b_2 + s2.2))), fun _ => (Sl adata_0 s2.1 cdata_0), fun _ => (I b_2), fun _ => (I s2.2), fun _ => (I (w64 (b_2 + s2.2))), fun _ => (pt b9 o10), fun _ => (I x6), fun _ => (Sl adata_0 s2.1 cdata_0), fun _ => (I a_1), fun _ => (I s2.2), fun _ => (I (w64 (a_1 + s2.2))), fun _ => (pt b15 o16), fun _ => (I x12), fun _ => (pt b21 o22), fun _ => undef] () (by kernel_rfl) (by kernel_rfl) ?_ ?_ ?_
   ·intro σm m0
    exact ⟨H.grow (m0.mono fun _ h => h.elim), m0⟩
   ·refine ac rfl (by
      intro k _nm ρ σm hJ hoff hdep
      have e0 := look_off (N := 38) (hoff 0 rfl) rfl
      exact dp_v (v := (Sl adata_0 s2.1 cdata_0)) wn (rv_move e0) rfl hJ) ?_
    refine ac rfl (by
      intro k _nm ρ σm hJ hoff hdep
      have e1 := look_off (N := 38) (hoff 1 rfl) rfl
      exact dp_v (v := (I a_1)) wn (rv_move e1) rfl hJ) ?_
    refine ac rfl (by
      intro k _nm ρ σm hJ hoff hdep
      have e10 := look_off (N := 38) (hoff 10 rfl) rfl
      exact dp_v (v := (I s2.2)) wn (rv_move e10) rfl hJ) ?_
    refine ac rfl (by
      intro k _nm ρ σm hJ hoff hdep
      have e17 := hdep 1 rfl rfl 17 rfl
      have e18 := hdep 2 rfl rfl 18 rfl
      exact dp_v (v := (I (w64 (a_1 + s2.2)))) wn (rv_add (a := a_1) (b := s2.2) e17 e18) rfl hJ) ?_
    refine ac rfl (by
      intro k _nm ρ σm hJ hoff hdep
      have e0 := look_off (N := 38) (hoff 0 rfl) rfl
      exact dp_v (v := (Sl adata_0 s2.1 cdata_0)) wn (rv_move e0) rfl hJ) ?_
    refine ac rfl (by
      intro k _nm ρ σm hJ hoff hdep
      have e2 := look_off (N := 38) (hoff 2 rfl) rfl
      exact dp_v (v := (I b_2)) wn (rv_move e2) rfl hJ) ?_
    refine ac rfl (by
      intro k _nm ρ σm hJ hoff hdep
      have e10 := look_off (N := 38) (hoff 10 rfl) rfl
      exact dp_v (v := (I s2.2)) wn (rv_move e10) rfl hJ) ?_
    refine ac rfl (by
      intro k _nm ρ σm hJ hoff hdep
      have e21 := hdep 5 rfl rfl 21 rfl
      have e22 := hdep 6 rfl rfl 22 rfl
      exact dp_v (v := (I (w64 (b_2 + s2.2)))) wn (rv_add (a := b_2) (b := s2.2) e21 e22) rfl hJ) ?_
    refine ac rfl (by
      intro k _nm ρ σm hJ hoff hdep
      have e0 := look_off (N := 38) (hoff 0 rfl) rfl
      exact dp_v (v := (Sl adata_0 s2.1 cdata_0)) wn (rv_move e0) rfl hJ) ?_
    refine ac rfl (by
      intro k _nm ρ σm hJ hoff hdep
      have e2 := look_off (N := 38) (hoff 2 rfl) rfl
      exact dp_v (v := (I b_2)) wn (rv_move e2) rfl hJ) ?_
    refine ac rfl (by
      intro k _nm ρ σm hJ hoff hdep
      have e10 := look_off (N := 38) (hoff 10 rfl) rfl
      exact dp_v (v := (I s2.2)) wn (rv_move e10) rfl hJ) ?_
    refine ac rfl (by
      intro k _nm ρ σm hJ hoff hdep
      have e25 := hdep 9 rfl rfl 25 rfl
      have e26 := hdep 10 rfl rfl 26 rfl
      exact dp_v (v := (I (w64 (b_2 + s2.2)))) wn (rv_add (a := b_2) (b := s2.2) e25 e26) rfl hJ) ?_
    refine ac rfl (by
      intro k _nm ρ σm hJ hoff hdep
      have e24 := hdep 8 rfl rfl 24 rfl
      have e27 := hdep 11 rfl rfl 27 rfl
      exact dp_v (v := (pt b9 o10)) wn (rv_ix Try.underlying29 ti3 e24 e27 hi8) rfl hJ) ?_
    refine all_cons (by
      refine ⟨?_, ?_⟩
      ·intro _nm ρ σm hJ hoff hdep
       have e28 := hdep 12 rfl rfl 28 rfl
       obtain ⟨H, m⟩ := id hJ
       have hc11 := ((H.own 0 rfl).at hx7 hi8).int
       exact dp_v (v := (I x6)) wn (rv_load1 Try.underlying3 rfl e28 hc11) rfl hJ
      trivial) ?_
    refine ac rfl (by
      intro k _nm ρ σm hJ hoff hdep
      have e0 := look_off (N := 38) (hoff 0 rfl) rfl
      exact dp_v (v := (Sl adata_0 s2.1 cdata_0)) wn (rv_move e0) rfl hJ) ?_
    refine ac rfl (by
      intro k _nm ρ σm hJ hoff hdep
      have e1 := look_off (N := 38) (hoff 1 rfl) rfl
      exact dp_v (v := (I a_1)) wn (rv_move e1) rfl hJ) ?_
    refine ac rfl (by
      intro k _nm ρ σm hJ hoff hdep
      have e10 := look_off (N := 38) (hoff 10 rfl) rfl
      exact dp_v (v := (I s2.2)) wn (rv_move e10) rfl hJ) ?_
    refine ac rfl (by
      intro k _nm ρ σm hJ hoff hdep
      have e31 := hdep 15 rfl rfl 31 rfl
      have e32 := hdep 16 rfl rfl 32 rfl
      exact dp_v (v := (I (w64 (a_1 + s2.2)))) wn (rv_add (a := a_1) (b := s2.2) e31 e32) rfl hJ) ?_
    refine ac rfl (by
      intro k _nm ρ σm hJ hoff hdep
      have e30 := hdep 14 rfl rfl 30 rfl
      have e33 := hdep 17 rfl rfl 33 rfl
      exact dp_v (v := (pt b15 o16)) wn (rv_ix Try.underlying29 ti3 e30 e33 hi14) rfl hJ) ?_
    refine all_cons (by
      refine ⟨?_, ?_⟩
      ·intro _nm ρ σm hJ hoff hdep
       have e34 := hdep 18 rfl rfl 34 rfl
       obtain ⟨H, m⟩ := id hJ
       have hc17 := ((H.own 0 rfl).at hx13 hi14).int
       exact dp_v (v := (I x12)) wn (rv_load1 Try.underlying3 rfl e34 hc17) rfl hJ
      trivial) ?_
    refine ac rfl (by
      intro k _nm ρ σm hJ hoff hdep
      have e16 := hdep 0 rfl rfl 16 rfl
      have e19 := hdep 3 rfl rfl 19 rfl
      exact dp_v (v := (pt b21 o22)) wn (rv_ix Try.underlying29 ti3 e16 e19 hi20) rfl hJ) ?_
    refine all_cons (by
      refine ⟨?_, ?_⟩
      ·intro _nm ρ σm hJ hoff hdep
       have e36 := hdep 20 rfl rfl 36 rfl
       have e29 := hdep 13 rfl rfl 29 rfl
       obtain ⟨H, m⟩ := id hJ
       refine dp_exS wn rfl (ex_store_own (e' := x6) (vs := [(I x6)]) (k := 0) H (i := 0) rfl ti3 hx19 hi20 e36 rfl e29 rfl rfl (Nat.le_of_ble_eq_true rfl) (by simp [plain]) (by rintro _ rfl; exact rfl)) ?_
       rintro σq ⟨H2, m2⟩
       exact ⟨_, (), rfl, ⟨H2.sel' [0, 1, 2, 3, 4] rfl rfl, m.comp m2⟩, stab [0, 1, 2, 3, 4, 5, 6, 7, 8, 9, 10, 11, 12, 13, 14, 15, 16, 17, 18, 19, 20] (by kernel_rfl) ⟨rfl, rfl, rfl, rfl, rfl, rfl, rfl, rfl, rfl, rfl, rfl, rfl, rfl, rfl, rfl, rfl, rfl, rfl, rfl, rfl, rfl, trivial⟩⟩
      trivial) ?_
    exact all_nil
   ·intro _nm ρ σ23 hJ hoff hrel
    have e0 := look_off (N := 38) (hoff 0 rfl) rfl
    have e1 := look_off (N := 38) (hoff 1 rfl) rfl
    have e2 := look_off (N := 38) (hoff 2 rfl) rfl
    have e3 := look_off (N := 38) (hoff 3 rfl) rfl
    have e4 := look_off (N := 38) (hoff 4 rfl) rfl
    have e10 := look_off (N := 38) (hoff 10 rfl) rfl
    have e20 := hrel 4 rfl 20 rfl
    have e23 := hrel 7 rfl 23 rfl
    have e35 := hrel 19 rfl 35 rfl
    obtain ⟨H, -⟩ := (show Hp S0 σ0 σ23 [Ch.own 0 0 (Sl adata_0 s2.1 cdata_0) (s2.1.set (w64 (a_1 + s2.2)).toNat x6), Ch.ro 0 (Sl acmp_4_0 cmp_4_0 ccmp_4_0) cmp_4_0, Ch.bx locmp_4_0 bcmp_4_0 ocmp_4_0 [(Sl acmp_4_0 cmp_4_0 ccmp_4_0)] precmp_4_0 sufcmp_4_0, Ch.ro 0 (Sl acmp_4_1 cmp_4_1 ccmp_4_1) cmp_4_1, Ch.bx locmp_4_1 bcmp_4_1 ocmp_4_1 [(Sl acmp_4_1 cmp_4_1 ccmp_4_1)] precmp_4_1 sufcmp_4_1] ∧ Md (fun i => (cov []) i ∨ (fun b => blk (Sl adata_0 s2.1 cdata_0) = some b) i) σ3 σ23 from hJ)
    clear hJ Hs
    rw [fr_lookL (L := [(0, (Sl adata_0 s2.1 cdata_0)), (1, (I a_1)), (2, (I b_2)), (3, (I n_3)), (4, (.func (.func 63) #[] #[(pt bcmp_4_0 ocmp_4_0), (pt bcmp_4_1 ocmp_4_1)])), (10, (I s2.2)), (20, (Sl adata_0 s2.1 cdata_0)), (23, (I (w64 (b_2 + s2.2)))), (35, (I x12))]) ⟨e0, e1, e2, e3, e4, e10, e20, e23, e35, trivial⟩]
    clear hoff hrel e0 e1 e2 e3 e4 e10 e20 e23 e35
    have hsl : (Sl adata_0 s2.1 cdata_0) = (Sl adata_0 (s2.1.set (w64 (a_1 + s2.2)).toNat x6) cdata_0) := sl_len (by simp)
    rw [hsl]; rw [hsl] at H; clear hsl
    obtain ⟨x24, hx25, h'⟩ := bind_some h
    clear h
    have h := h'; clear h'
    obtain ⟨b27, o28, hi26, -⟩ := (H.own 0 rfl).ix hx25
    refine st (v := (pt b27 o28)) (rv_ix Try.underlying29 ti3 rfl rfl hi26) ?_
    refine st_exS (ex_store_own (e' := x12) (vs := [(I x12)]) (k := 0) H (i := 0) rfl ti3 hx25 hi26 rfl rfl rfl rfl rfl (Nat.le_of_ble_eq_true rfl) (by simp [plain]) (by rintro _ rfl; exact rfl)) wn ?_
    rintro σ29 ⟨H, -⟩
    have hsl : (Sl adata_0 (s2.1.set (w64 (a_1 + s2.2)).toNat x6) cdata_0) = (Sl adata_0 ((s2.1.set (w64 (a_1 + s2.2)).toNat x6).set (w64 (b_2 + s2.2)).toNat x12) cdata_0) := sl_len List.length_set.symm
    rw [hsl]; rw [hsl] at H; clear hsl
    refine w_end ?_
    refine q_blk ?_
    refine q_then ?_
    refine rg ?_
    refine st (v := (I s2.2)) (rv_move rfl) ?_
    refine st (v := (I (w64 (s2.2 + 1)))) (rv_add (a := s2.2) (b := 1) rfl rfl) ?_
    refine st (v := (I (w64 (s2.2 + 1)))) (rv_assign rfl) ?_
    refine w_end ?_
    refine q_then ?_
    obtain rfl := Option.some.inj h
    exact ⟨_, rfl, _, σ29, fr_join ⟨rfl, rfl, rfl, rfl, rfl, rfl, trivial⟩, rfl, H.sel' [0, 1, 2, 3, 4] rfl rfl, (List.length_set.trans (List.length_set.trans hn4))⟩
  ·replace h := bif_f hb5 h
   refine c_exit ?_
   refine q_then_x ?_
   refine q_then_x ?_
   refine q_blk_hit ?_
   obtain rfl := Option.some.inj h
   obtain rfl := hres _ rfl
   exact ⟨rfl, _, σ3, fr_join ⟨rfl, rfl, trivial⟩, rfl, H.sel' [0, 1, 2, 3, 4] rfl rfl, hn4⟩
 ·clear hj
  have h := h'
  clear h' H
  rintro e a w ⟨rfl, ρ, σ30, rfl, rfl, H, hn31⟩
  obtain rfl := Option.some.inj h
  exact fin_end (v := (.tuple #[])) (results_ok Try.results123 res_nil rfl) ⟨rfl, rfl, hn31⟩ (H.sel' [0, 2, 4] rfl rfl)

theorem c_slices_rotateCmpFunc_int__impl_ProbeOrder_1 {data_0 : List Int} {a_1 : Int} {m_2 : Int} {b_3 : Int} {cmp_4_0 : List (List Int)} {cmp_4_1 : List Int} {adata_0 : Option Addr} {cdata_0 : Nat} {acmp_4_0 : Option Addr} {ccmp_4_0 : Nat} {locmp_4_0 bcmp_4_0 ocmp_4_0 : Nat} {precmp_4_0 sufcmp_4_0 : List Value} {acmp_4_1 : Option Addr} {ccmp_4_1 : Nat} {locmp_4_1 bcmp_4_1 ocmp_4_1 : Nat} {precmp_4_1 sufcmp_4_1 : List Value} {r : (List Int)} (h : M.slices_rotateCmpFunc_int__impl_ProbeOrder_1 data_0 a_1 m_2 b_3 cmp_4_0 cmp_4_1 = some r) :
    Cal2 Try.prog 121 [(Sl adata_0 data_0 cdata_0), (I a_1), (I m_2), (I b_3), (.func (.func 63) #[] #[(pt bcmp_4_0 ocmp_4_0), (pt bcmp_4_1 ocmp_4_1)])] [Ch.own 0 0 (Sl adata_0 data_0 cdata_0) data_0, Ch.bx locmp_4_0 bcmp_4_0 ocmp_4_0 [(Sl acmp_4_0 cmp_4_0 ccmp_4_0)] precmp_4_0 sufcmp_4_0, Ch.ro 0 (Sl acmp_4_0 cmp_4_0 ccmp_4_0) cmp_4_0, Ch.bx locmp_4_1 bcmp_4_1 ocmp_4_1 [(Sl acmp_4_1 cmp_4_1 ccmp_4_1)] precmp_4_1 sufcmp_4_1, Ch.ro 0 (Sl acmp_4_1 cmp_4_1 ccmp_4_1) cmp_4_1] (fun n0 v L => v = (.tuple #[]) ∧ L = [Ch.own 0 0 (Sl adata_0 r cdata_0) r, Ch.bx locmp_4_0 bcmp_4_0 ocmp_4_0 [(Sl acmp_4_0 cmp_4_0 ccmp_4_0)] precmp_4_0 sufcmp_4_0, Ch.bx locmp_4_1 bcmp_4_1 ocmp_4_1 [(Sl acmp_4_1 cmp_4_1 ccmp_4_1)] precmp_4_1 sufcmp_4_1] ∧ r.length = data_0.length) := by
 refine cal2 (n := 58) Try.func121 rfl rfl rfl rfl ?_
 intro S0 σ0 n0 hn0 H
 unfold M.slices_rotateCmpFunc_int__impl_ProbeOrder_1 at h
 refine c_seq ?_
 refine rg ?_
 refine st (v := (I m_2)) (rv_move rfl) ?_
 refine st (v := (I a_1)) (rv_move rfl) ?_
 refine st (v := (I (w64 (m_2 - a_1)))) (rv_sub (a := m_2) (b := a_1) rfl rfl) ?_
 refine st (v := (I (w64 (m_2 - a_1)))) (rv_assign rfl) ?_
 refine w_end ?_
 refine q_then ?_
 refine c_seq ?_
 refine rg ?_
 refine st (v := (I b_3)) (rv_move rfl) ?_
 refine st (v := (I m_2)) (rv_move rfl) ?_
 refine st (v := (I (w64 (b_3 - m_2)))) (rv_sub (a := b_3) (b := m_2) rfl rfl) ?_
 refine st (v := (I (w64 (b_3 - m_2)))) (rv_assign rfl) ?_
 refine w_end ?_
 refine q_then ?_
 refine c_seq ?_
 obtain ⟨o1, hj, h'⟩ := bind_some h
 clear h
 refine c_cut (fun e a w => e = .normal ∧ ∃ (ρ : Nat → Value) (σ : St), a = fr 58 (updL ρ [(0, (Sl adata_0 o1.1 cdata_0)), (2, (I m_2)), (4, (.func (.func 63) #[] #[(pt bcmp_4_0 ocmp_4_0), (pt bcmp_4_1 ocmp_4_1)])), (10, (I o1.2))]) ∧ w = σ.w ∧ Hp S0 σ0 σ [Ch.own 0 0 (Sl adata_0 o1.1 cdata_0) o1.1, Ch.ro 0 (Sl acmp_4_0 cmp_4_0 ccmp_4_0) cmp_4_0, Ch.bx locmp_4_0 bcmp_4_0 ocmp_4_0 [(Sl acmp_4_0 cmp_4_0 ccmp_4_0)] precmp_4_0 sufcmp_4_0, Ch.ro 0 (Sl acmp_4_1 cmp_4_1 ccmp_4_1) cmp_4_1, Ch.bx locmp_4_1 bcmp_4_1 ocmp_4_1 [(Sl acmp_4_1 cmp_4_1 ccmp_4_1)] precmp_4_1 sufcmp_4_1] ∧ o1.1.length = data_0.length) ?_ ?_
 ·clear h'
  rename _ = some o1 => h
  refine c_blk ?_
  refine wp_loopM _ h (fun s2 a w => ∃ (ρ : Nat → Value) (σ : St), a = fr 58 (updL ρ [(0, (Sl adata_0 s2.1 cdata_0)), (2, (I m_2)), (4, (.func (.func 63) #[] #[(pt bcmp_4_0 ocmp_4_0), (pt bcmp_4_1 ocmp_4_1)])), (10, (I s2.2.1)), (11, (I s2.2.2))]) ∧ w = σ.w ∧ Hp S0 σ0 σ [Ch.own 0 0 (Sl adata_0 s2.1 cdata_0) s2.1, Ch.ro 0 (Sl acmp_4_0 cmp_4_0 ccmp_4_0) cmp_4_0, Ch.bx locmp_4_0 bcmp_4_0 ocmp_4_0 [(Sl acmp_4_0 cmp_4_0 ccmp_4_0)] precmp_4_0 sufcmp_4_0, Ch.ro 0 (Sl acmp_4_1 cmp_4_1 ccmp_4_1) cmp_4_1, Ch.bx locmp_4_1 bcmp_4_1 ocmp_4_1 [(Sl acmp_4_1 cmp_4_1 ccmp_4_1)] precmp_4_1 sufcmp_4_1] ∧ s2.1.length = data_0.length) ⟨_, σ0, fr_join ⟨rfl, rfl, rfl, rfl, rfl, trivial⟩, rfl, H.sel' [0, 2, 1, 4, 3] rfl rfl, rfl⟩ ?_
  clear h H
  rintro s2 a w o ⟨ρ, σ3, rfl, rfl, H, hn4⟩ h hres
  refine c_seq ?_
  refine c_seq ?_
  refine rg ?_
  refine st (v := (I s2.2.1)) (rv_move rfl) ?_
  refine st (v := (I s2.2.2)) (rv_move rfl) ?_
  refine st (v := (B (s2.2.1 != s2.2.2))) (rv_neq (a := s2.2.1) (b := s2.2.2) rfl rfl) ?_
  refine w_end ?_
  refine q_then ?_
  refine cd_cond (s2.2.1 != s2.2.2) rfl (fun hb5 => ?_) (fun hb5 => ?_)
  ·replace h := bif_t hb5 h
   refine c_skip ?_
   refine q_then ?_
   refine c_blk ?_
   refine c_seq ?_
   refine rg ?_
   refine st (v := (I s2.2.1)) (rv_move rfl) ?_
   refine st (v := (I s2.2.2)) (rv_move rfl) ?_
   refine st (v := (B (decide (s2.2.2 < s2.2.1)))) (rv_gtr (a := s2.2.1) (b := s2.2.2) rfl rfl) ?_
   refine w_end ?_
   refine q_then ?_
   refine cd_cond (decide (s2.2.2 < s2.2.1)) rfl (fun hb6 => ?_) (fun hb6 => ?_)
   ·replace h := bif_t hb6 h
    refine c_seq ?_
    refine rg ?_
    refine st (v := (Sl adata_0 s2.1 cdata_0)) (rv_move rfl) ?_
    refine st (v := (I m_2)) (rv_move rfl) ?_
    refine st (v := (I s2.2.1)) (rv_move rfl) ?_
    refine st (v := (I (w64 (m_2 - s2.2.1)))) (rv_sub (a := m_2) (b := s2.2.1) rfl rfl) ?_
    refine st (v := (I m_2)) (rv_move rfl) ?_
    refine st (v := (I s2.2.2)) (rv_move rfl) ?_
    refine st (v := (.func (.func 63) #[] #[(pt bcmp_4_0 ocmp_4_0), (pt bcmp_4_1 ocmp_4_1)])) (rv_move rfl) ?_
    obtain ⟨r7, hx8, h'⟩ := bind_some h
    clear h
    have h := h'; clear h'
    have hc9 := c_slices_swapRangeCmpFunc_int__impl_ProbeOrder_1 (adata_0 := adata_0) (cdata_0 := cdata_0) (locmp_4_0 := locmp_4_0) (bcmp_4_0 := bcmp_4_0) (ocmp_4_0 := ocmp_4_0) (precmp_4_0 := precmp_4_0) (sufcmp_4_0 := sufcmp_4_0) (acmp_4_0 := acmp_4_0) (ccmp_4_0 := ccmp_4_0) (locmp_4_1 := locmp_4_1) (bcmp_4_1 := bcmp_4_1) (ocmp_4_1 := ocmp_4_1) (precmp_4_1 := precmp_4_1) (sufcmp_4_1 := sufcmp_4_1) (acmp_4_1 := acmp_4_1) (ccmp_4_1 := ccmp_4_1) hx8
    refine st_call (cx_call hc9 (ent_f hc9.fn rfl) hn0 (show Hp S0 σ0 _ ([Ch.own 0 0 (Sl adata_0 s2.1 cdata_0) s2.1, Ch.bx locmp_4_0 bcmp_4_0 ocmp_4_0 [(Sl acmp_4_0 cmp_4_0 ccmp_4_0)] precmp_4_0 sufcmp_4_0, Ch.ro 0 (Sl acmp_4_0 cmp_4_0 ccmp_4_0) cmp_4_0, Ch.bx locmp_4_1 bcmp_4_1 ocmp_4_1 [(Sl acmp_4_1 cmp_4_1 ccmp_4_1)] precmp_4_1 sufcmp_4_1, Ch.ro 0 (Sl acmp_4_1 cmp_4_1 ccmp_4_1) cmp_4_1] ++ [Ch.ro 0 (Sl acmp_4_0 cmp_4_0 ccmp_4_0) cmp_4_0, Ch.ro 0 (Sl acmp_4_1 cmp_4_1 ccmp_4_1) cmp_4_1]) from (H.sel' [0, 2, 1, 4, 3, 1, 3] rfl rfl))) wn ?_
    rintro _ σ11 ⟨_, ⟨rfl, rfl, hn10⟩, H, -⟩
    replace H : Hp S0 σ0 σ11 [Ch.own 0 0 (Sl adata_0 r7 cdata_0) r7, Ch.bx locmp_4_0 bcmp_4_0 ocmp_4_0 [(Sl acmp_4_0 cmp_4_0 ccmp_4_0)] precmp_4_0 sufcmp_4_0, Ch.bx locmp_4_1 bcmp_4_1 ocmp_4_1 [(Sl acmp_4_1 cmp_4_1 ccmp_4_1)] precmp_4_1 sufcmp_4_1, Ch.ro 0 (Sl acmp_4_0 cmp_4_0 ccmp_4_0) cmp_4_0, Ch.ro 0 (Sl acmp_4_1 cmp_4_1 ccmp_4_1) cmp_4_1] := H
    have hsl : (Sl adata_0 s2.1 cdata_0) = (Sl adata_0 r7 cdata_0) := sl_len hn10.symm
    try rw [hsl]
    try rw [hsl] at H
    clear hsl
    refine w_end ?_
    refine q_then ?_
    refine rg ?_
    refine st (v := (I s2.2.1)) (rv_move rfl) ?_
    refine st (v := (I s2.2.2)) (rv_move rfl) ?_
    refine st (v := (I (w64 (s2.2.1 - s2.2.2)))) (rv_sub (a := s2.2.1) (b := s2.2.2) rfl rfl) ?_
    refine st (v := (I (w64 (s2.2.1 - s2.2.2)))) (rv_assign rfl) ?_
    refine w_end ?_
    refine q_blk ?_
    refine q_then ?_
    obtain rfl := Option.some.inj h
    exact ⟨_, rfl, _, σ11, fr_join ⟨rfl, rfl, rfl, rfl, rfl, trivial⟩, rfl, H.sel' [0, 3, 1, 4, 2] rfl rfl, (hn10.trans hn4)⟩
   ·replace h := bif_f hb6 h
    refine c_seq ?_
    refine rg ?_
    refine st (v := (Sl adata_0 s2.1 cdata_0)) (rv_move rfl) ?_
    refine st (v := (I m_2)) (rv_move rfl) ?_
    refine st (v := (I s2.2.1)) (rv_move rfl) ?_
    refine st (v := (I (w64 (m_2 - s2.2.1)))) (rv_sub (a := m_2) (b := s2.2.1) rfl rfl) ?_
    refine st (v := (I m_2)) (rv_move rfl) ?_
    refine st (v := (I s2.2.2)) (rv_move rfl) ?_
    refine st (v := (I (w64 (m_2 + s2.2.2)))) (rv_add (a := m_2) (b := s2.2.2) rfl rfl) ?_
    refine st (v := (I s2.2.1)) (rv_move rfl) ?_
    refine st (v := (I (w64 ((w64 (m_2 + s2.2.2)) - s2.2.1)))) (rv_sub (a := (w64 (m_2 + s2.2.2))) (b := s2.2.1) rfl rfl) ?_
    refine st (v := (I s2.2.1)) (rv_move rfl) ?_
    refine st (v := (.func (.func 63) #[] #[(pt bcmp_4_0 ocmp_4_0), (pt bcmp_4_1 ocmp_4_1)])) (rv_move rfl) ?_
    obtain ⟨r12, hx13, h'⟩ := bind_some h
    clear h
    have h := h'; clear h'
    have hc14 := c_slices_swapRangeCmpFunc_int__impl_ProbeOrder_1 (adata_0 := adata_0) (cdata_0 := cdata_0) (locmp_4_0 := locmp_4_0) (bcmp_4_0 := bcmp_4_0) (ocmp_4_0 := ocmp_4_0) (precmp_4_0 := precmp_4_0) (sufcmp_4_0 := sufcmp_4_0) (acmp_4_0 := acmp_4_0) (ccmp_4_0 := ccmp_4_0) (locmp_4_1 := locmp_4_1) (bcmp_4_1 := bcmp_4_1) (ocmp_4_1 := ocmp_4_1) (precmp_4_1 := precmp_4_1) (sufcmp_4_1 := sufcmp_4_1) (acmp_4_1 := acmp_4_1) (ccmp_4_1 := ccmp_4_1) hx13
    refine st_call (cx_call hc14 (ent_f hc14.fn rfl) hn0 (show Hp S0 σ0 _ ([Ch.own 0 0 (Sl adata_0 s2.1 cdata_0) s2.1, Ch.bx locmp_4_0 bcmp_4_0 ocmp_4_0 [(Sl acmp_4_0 cmp_4_0 ccmp_4_0)] precmp_4_0 sufcmp_4_0, Ch.ro 0 (Sl acmp_4_0 cmp_4_0 ccmp_4_0) cmp_4_0, Ch.bx locmp_4_1 bcmp_4_1 ocmp_4_1 [(Sl acmp_4_1 cmp_4_1 ccmp_4_1)] precmp_4_1 sufcmp_4_1, Ch.ro 0 (Sl acmp_4_1 cmp_4_1 ccmp_4_1) cmp_4_1] ++ [Ch.ro 0 (Sl acmp_4_0 cmp_4_0 ccmp_4_0) cmp_4_0, Ch.ro 0 (Sl acmp_4_1 cmp_4_1 ccmp_4_1) cmp_4_1]) from (H.sel' [0, 2, 1, 4, 3, 1, 3] rfl rfl))) wn ?_
    rintro _ σ16 ⟨_, ⟨rfl, rfl, hn15⟩, H, -⟩
    replace H : Hp S0 σ0 σ16 [Ch.own 0 0 (Sl adata_0 r12 cdata_0) r12, Ch.bx locmp_4_0 bcmp_4_0 ocmp_4_0 [(Sl acmp_4_0 cmp_4_0 ccmp_4_0)] precmp_4_0 sufcmp_4_0, Ch.bx locmp_4_1 bcmp_4_1 ocmp_4_1 [(Sl acmp_4_1 cmp_4_1 ccmp_4_1)] precmp_4_1 sufcmp_4_1, Ch.ro 0 (Sl acmp_4_0 cmp_4_0 ccmp_4_0) cmp_4_0, Ch.ro 0 (Sl acmp_4_1 cmp_4_1 ccmp_4_1) cmp_4_1] := H
    have hsl : (Sl adata_0 s2.1 cdata_0) = (Sl adata_0 r12 cdata_0) := sl_len hn15.symm
    try rw [hsl]
    try rw [hsl] at H
    clear hsl
    refine w_end ?_
    refine q_then ?_
    refine rg ?_
    refine st (v := (I s2.2.2)) (rv_move rfl) ?_
    refine st (v := (I s2.2.1)) (rv_move rfl) ?_
    refine st (v := (I (w64 (s2.2.2 - s2.2.1)))) (rv_sub (a := s2.2.2) (b := s2.2.1) rfl rfl) ?_
    refine st (v := (I (w64 (s2.2.2 - s2.2.1)))) (rv_assign rfl) ?_
    refine w_end ?_
    refine q_blk ?_
    refine q_then ?_
    obtain rfl := Option.some.inj h
    exact ⟨_, rfl, _, σ16, fr_join ⟨rfl, rfl, rfl, rfl, rfl, trivial⟩, rfl, H.sel' [0, 3, 1, 4, 2] rfl rfl, (hn15.trans hn4)⟩
  ·replace h := bif_f hb5 h
   refine c_exit ?_
   refine q_then_x ?_
   refine q_then_x ?_
   refine q_blk_hit ?_
   obtain rfl := Option.some.inj h
   obtain rfl := hres _ rfl
   exact ⟨rfl, _, σ3, fr_join ⟨rfl, rfl, rfl, rfl, trivial⟩, rfl, H.sel' [0, 1, 2, 3, 4] rfl rfl, hn4⟩
 ·clear hj
  have h := h'
  clear h' H
  rintro e a w ⟨rfl, ρ, σ17, rfl, rfl, H, hn18⟩
  refine q_then ?_
  refine rg ?_
  refine st (v := (Sl adata_0 o1.1 cdata_0)) (rv_move rfl) ?_
  refine st (v := (I m_2)) (rv_move rfl) ?_
  refine st (v := (I o1.2)) (rv_move rfl) ?_
  refine st (v := (I (w64 (m_2 - o1.2)))) (rv_sub (a := m_2) (b := o1.2) rfl rfl) ?_
  refine st (v := (I m_2)) (rv_move rfl) ?_
  refine st (v := (I o1.2)) (rv_move rfl) ?_
  refine st (v := (.func (.func 63) #[] #[(pt bcmp_4_0 ocmp_4_0), (pt bcmp_4_1 ocmp_4_1)])) (rv_move rfl) ?_
  obtain ⟨r19, hx20, h'⟩ := bind_some h
  clear h
  have h := h'; clear h'
  have hc21 := c_slices_swapRangeCmpFunc_int__impl_ProbeOrder_1 (adata_0 := adata_0) (cdata_0 := cdata_0) (locmp_4_0 := locmp_4_0) (bcmp_4_0 := bcmp_4_0) (ocmp_4_0 := ocmp_4_0) (precmp_4_0 := precmp_4_0) (sufcmp_4_0 := sufcmp_4_0) (acmp_4_0 := acmp_4_0) (ccmp_4_0 := ccmp_4_0) (locmp_4_1 := locmp_4_1) (bcmp_4_1 := bcmp_4_1) (ocmp_4_1 := ocmp_4_1) (precmp_4_1 := precmp_4_1) (sufcmp_4_1 := sufcmp_4_1) (acmp_4_1 := acmp_4_1) (ccmp_4_1 := ccmp_4_1) hx20
  refine st_call (cx_call hc21 (ent_f hc21.fn rfl) hn0 (show Hp S0 σ0 _ ([Ch.own 0 0 (Sl adata_0 o1.1 cdata_0) o1.1, Ch.bx locmp_4_0 bcmp_4_0 ocmp_4_0 [(Sl acmp_4_0 cmp_4_0 ccmp_4_0)] precmp_4_0 sufcmp_4_0, Ch.ro 0 (Sl acmp_4_0 cmp_4_0 ccmp_4_0) cmp_4_0, Ch.bx locmp_4_1 bcmp_4_1 ocmp_4_1 [(Sl acmp_4_1 cmp_4_1 ccmp_4_1)] precmp_4_1 sufcmp_4_1, Ch.ro 0 (Sl acmp_4_1 cmp_4_1 ccmp_4_1) cmp_4_1] ++ [Ch.ro 0 (Sl acmp_4_0 cmp_4_0 ccmp_4_0) cmp_4_0, Ch.ro 0 (Sl acmp_4_1 cmp_4_1 ccmp_4_1) cmp_4_1]) from (H.sel' [0, 2, 1, 4, 3, 1, 3] rfl rfl))) wn ?_
  rintro _ σ23 ⟨_, ⟨rfl, rfl, hn22⟩, H, -⟩
  replace H : Hp S0 σ0 σ23 [Ch.own 0 0 (Sl adata_0 r19 cdata_0) r19, Ch.bx locmp_4_0 bcmp_4_0 ocmp_4_0 [(Sl acmp_4_0 cmp_4_0 ccmp_4_0)] precmp_4_0 sufcmp_4_0, Ch.bx locmp_4_1 bcmp_4_1 ocmp_4_1 [(Sl acmp_4_1 cmp_4_1 ccmp_4_1)] precmp_4_1 sufcmp_4_1, Ch.ro 0 (Sl acmp_4_0 cmp_4_0 ccmp_4_0) cmp_4_0, Ch.ro 0 (Sl acmp_4_1 cmp_4_1 ccmp_4_1) cmp_4_1] := H
  have hsl : (Sl adata_0 o1.1 cdata_0) = (Sl adata_0 r19 cdata_0) := sl_len hn22.symm
  try rw [hsl]
  try rw [hsl] at H
  clear hsl
  refine w_end ?_
  obtain rfl := Option.some.inj h
  exact fin_end (v := (.tuple #[])) (results_ok Try.results121 res_nil rfl) ⟨rfl, rfl, (hn22.trans hn18)⟩ (H.sel' [0, 1, 2] rfl rfl)

end Go.Vs
