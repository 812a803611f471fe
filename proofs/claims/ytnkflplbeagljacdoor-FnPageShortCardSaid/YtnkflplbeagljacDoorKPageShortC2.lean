/- The functions compute what their models say. -/
import Derived.Test.YtnkflplbeagljacDoorKPageShortC1
set_option linter.unusedVariables false
set_option linter.unusedSimpArgs false
set_option maxRecDepth 20000
namespace Go.Vs
open Go Go.Proofs
attribute [local irreducible] Code.wp Code.wpIn wpList wpListIn wpQuiet Calls CallsIn

theorem c_spec_anyItem {r_0 : (List UInt8) × Int} {ar_0_0 : Option Addr} {cr_0_0 : Nat} {lor_0 br_0 or_0 : Nat} {prer_0 sufr_0 : List Value} {r : (Int × (List Int) × Int) × ((List UInt8) × Int)} (h : M.spec_anyItem r_0 = some r) :
    Cal2 Tryd.prog 32 [(pt br_0 or_0)] [Ch.bx lor_0 br_0 or_0 [(Sl ar_0_0 r_0.1 cr_0_0), (I r_0.2)] prer_0 sufr_0, Ch.ro 0 (Sl ar_0_0 r_0.1 cr_0_0) r_0.1] (fun n0 v L => ∃ (az1 : Option Addr), ∃ (cz2 : Nat), ∃ (az3 : Option Addr), ∃ (cz4 : Nat), v = (.agg #[(I r.1.1), (Sl az1 r.1.2.1 cz2), (I r.1.2.2)]) ∧ L = [Ch.own n0 n0 (Sl az1 r.1.2.1 cz2) r.1.2.1, Ch.bx lor_0 br_0 or_0 [(Sl az3 r.2.1 cz4), (I r.2.2)] prer_0 sufr_0, Ch.ro 0 (Sl az3 r.2.1 cz4) r.2.1]) := by
 refine cal2 (n := 26) Tryd.func32 rfl rfl rfl rfl ?_
 intro S0 σ0 n0 hn0 H
 unfold M.spec_anyItem at h
 refine c_seq ?_
 refine rg ?_
 refine st_ex (ex_alloc (cs := [(I 0), (.slice none 0 0), (I 0)]) H hn0 ti41 rfl) wn ?_
 rintro _ σ2 ⟨b1, rfl, H, -⟩
 refine w_end ?_
 refine q_then ?_
 refine c_seq ?_
 refine rg ?_
 refine st (v := (pt br_0 or_0)) (rv_move rfl) ?_
 obtain ⟨r3, hx4, h'⟩ := bind_some h
 clear h
 have h := h'; clear h'
 have hc5 := c_spec_someItem (lor_0 := lor_0) (br_0 := br_0) (or_0 := or_0) (prer_0 := prer_0) (sufr_0 := sufr_0) (ar_0_0 := ar_0_0) (cr_0_0 := cr_0_0) hx4
 refine st_call (cx_call hc5 (ent_f hc5.fn rfl) hn0 (show Hp S0 σ0 _ ([Ch.bx lor_0 br_0 or_0 [(Sl ar_0_0 r_0.1 cr_0_0), (I r_0.2)] prer_0 sufr_0, Ch.ro 0 (Sl ar_0_0 r_0.1 cr_0_0) r_0.1] ++ [Ch.bx n0 b1 0 [(I 0), (.slice none 0 0), (I 0)] [] [], Ch.ro 0 (Sl ar_0_0 r_0.1 cr_0_0) r_0.1]) from (H.sel' [1, 2, 0, 2] rfl rfl))) wn ?_
 rintro _ σ10 ⟨_, ⟨a6, c7, a8, c9, rfl, rfl⟩, H, -⟩
 replace H : Hp S0 σ0 σ10 [Ch.own n0 n0 (Sl a6 r3.1.2.1 c7) r3.1.2.1, Ch.bx lor_0 br_0 or_0 [(Sl a8 r3.2.1 c9), (I r3.2.2)] prer_0 sufr_0, Ch.ro 0 (Sl a8 r3.2.1 c9) r3.2.1, Ch.bx n0 b1 0 [(I 0), (.slice none 0 0), (I 0)] [] [], Ch.ro 0 (Sl ar_0_0 r_0.1 cr_0_0) r_0.1] := H
 refine st_ex (ex_alloc (cs := [(I 0), (.slice none 0 0), (I 0)]) H hn0 ti41 rfl) wn ?_
 rintro _ σ12 ⟨b11, rfl, H, -⟩
 refine st_exS (ex_store_box (k := 0) (cs := [(I 0), (.slice none 0 0), (I 0)]) (vs := [(I r3.1.1), (Sl a6 r3.1.2.1 c7), (I r3.1.2.2)]) (cs' := [(I r3.1.1), (Sl a6 r3.1.2.1 c7), (I r3.1.2.2)]) H (i := 0) rfl ti41 rfl rfl rfl rfl rfl (Nat.le_of_ble_eq_true rfl) (by simp [plain]) rfl) wn ?_
 rintro σ13 ⟨H, -⟩
 refine w_end ?_
 refine q_then ?_
 refine c_seq ?_
 refine c_seq ?_
 refine rg ?_
 refine st (v := (pt br_0 or_0)) (rv_move rfl) ?_
 obtain ⟨r14, hx15, h'⟩ := bind_some h
 clear h
 have h := h'; clear h'
 have hc16 := c_spec_reader_pick (lor_0 := lor_0) (br_0 := br_0) (or_0 := or_0) (prer_0 := prer_0) (sufr_0 := sufr_0) (ar_0_0 := a8) (cr_0_0 := c9) hx15
 refine st_call (cx_call hc16 (ent_f hc16.fn rfl) hn0 (show Hp S0 σ0 _ ([Ch.bx lor_0 br_0 or_0 [(Sl a8 r3.2.1 c9), (I r3.2.2)] prer_0 sufr_0, Ch.ro 0 (Sl a8 r3.2.1 c9) r3.2.1] ++ [Ch.bx n0 b11 0 [(I r3.1.1), (Sl a6 r3.1.2.1 c7), (I r3.1.2.2)] [] [], Ch.own n0 n0 (Sl a6 r3.1.2.1 c7) r3.1.2.1, Ch.ro 0 (Sl a8 r3.2.1 c9) r3.2.1, Ch.bx n0 b1 0 [(I 0), (.slice none 0 0), (I 0)] [] [], Ch.ro 0 (Sl ar_0_0 r_0.1 cr_0_0) r_0.1]) from (H.sel' [2, 3, 0, 1, 3, 4, 5] rfl rfl))) wn ?_
 rintro _ σ19 ⟨_, ⟨a17, c18, rfl, rfl⟩, H, -⟩
 replace H : Hp S0 σ0 σ19 [Ch.bx lor_0 br_0 or_0 [(Sl a17 r14.2.1 c18), (I r14.2.2)] prer_0 sufr_0, Ch.ro 0 (Sl a17 r14.2.1 c18) r14.2.1, Ch.bx n0 b11 0 [(I r3.1.1), (Sl a6 r3.1.2.1 c7), (I r3.1.2.2)] [] [], Ch.own n0 n0 (Sl a6 r3.1.2.1 c7) r3.1.2.1, Ch.ro 0 (Sl a8 r3.2.1 c9) r3.2.1, Ch.bx n0 b1 0 [(I 0), (.slice none 0 0), (I 0)] [] [], Ch.ro 0 (Sl ar_0_0 r_0.1 cr_0_0) r_0.1] := H
 refine w_end ?_
 refine q_then ?_
 obtain ⟨o20, hj, h'⟩ := bind_some h
 clear h
 refine c_cut (fun e a w => e = .normal ∧ ∃ (ρ : Nat → Value) (σ : St) (aj1 : Option Addr) (cj2 : Nat) (aj3 : Option Addr) (cj4 : Nat), a = fr 26 (updL ρ [(0, (pt br_0 or_0)), (2, (pt b1 0)), (3, (pt b11 0))]) ∧ w = σ.w ∧ Hp S0 σ0 σ [Ch.bx lor_0 br_0 or_0 [(Sl aj1 o20.1.1 cj2), (I o20.1.2)] prer_0 sufr_0, Ch.ro 0 (Sl aj1 o20.1.1 cj2) o20.1.1, Ch.bx n0 b11 0 [(I o20.2.1), (Sl aj3 o20.2.2.1 cj4), (I o20.2.2.2)] [] [], Ch.own n0 n0 (Sl aj3 o20.2.2.1 cj4) o20.2.2.1, Ch.bx n0 b1 0 [(I 0), (.slice none 0 0), (I 0)] [] []]) ?_ ?_
 ·clear h'
  rename _ = some o20 => h
  refine c_blk ?_
  refine c_seq ?_
  refine rg ?_
  refine st (v := (B (r14.1 == 0))) (rv_eql (a := r14.1) (b := 0) rfl rfl) ?_
  refine st (v := (B (r14.1 == 0))) (rv_assign rfl) ?_
  refine w_end ?_
  refine q_then ?_
  refine cd_cond (r14.1 == 0) rfl (fun hb21 => ?_) (fun hb21 => ?_)
  ·replace h := bif_t hb21 h
   refine rg ?_
   refine st (v := (pt br_0 or_0)) (rv_move rfl) ?_
   refine st_ex (ex_buildSlice (el := n0) (xs := ([0, 99, 100] : List Int)) (ps := [(0, (I 0)), (1, (I 99)), (2, (I 100))]) (cs := [(I 0), (I 99), (I 100)]) H hn0 Tryd.underlying39 ti3 rfl rfl (by kernel_rfl) (.cons (c := [(I 0)]) rfl (.cons (c := [(I 99)]) rfl (.cons (c := [(I 100)]) rfl (.nil)))) rfl) wn ?_
   rintro _ σ23 ⟨b22, rfl, H, -⟩
   replace H : Hp S0 σ0 σ23 [Ch.own n0 n0 (Sl (some ⟨b22, 0, none⟩) ([0, 99, 100] : List Int) 3) ([0, 99, 100] : List Int), Ch.bx lor_0 br_0 or_0 [(Sl a17 r14.2.1 c18), (I r14.2.2)] prer_0 sufr_0, Ch.ro 0 (Sl a17 r14.2.1 c18) r14.2.1, Ch.bx n0 b11 0 [(I r3.1.1), (Sl a6 r3.1.2.1 c7), (I r3.1.2.2)] [] [], Ch.own n0 n0 (Sl a6 r3.1.2.1 c7) r3.1.2.1, Ch.bx n0 b1 0 [(I 0), (.slice none 0 0), (I 0)] [] []] := H.sel' [0, 1, 2, 3, 4, 6] rfl rfl
   obtain ⟨σ24, hw25, H, -⟩ := H.pub 0 rfl (Nat.le_refl _)
   rw [← hw25]; clear hw25
   replace H := H.roLow 0 0 rfl (Nat.zero_le _)
   obtain ⟨r26, hx27, h'⟩ := bind_some h
   clear h
   have h := h'; clear h'
   have hc28 := c_spec_reader_one (lor_0 := lor_0) (br_0 := br_0) (or_0 := or_0) (prer_0 := prer_0) (sufr_0 := sufr_0) (ar_0_0 := a17) (cr_0_0 := c18) (alist_1 := (some ⟨b22, 0, none⟩)) (clist_1 := 3) hx27
   refine st_call (cx_call hc28 (ent_f hc28.fn rfl) hn0 (show Hp S0 σ0 _ ([Ch.bx lor_0 br_0 or_0 [(Sl a17 r14.2.1 c18), (I r14.2.2)] prer_0 sufr_0, Ch.ro 0 (Sl a17 r14.2.1 c18) r14.2.1, Ch.ro 0 (Sl (some ⟨b22, 0, none⟩) ([0, 99, 100] : List Int) 3) ([0, 99, 100] : List Int)] ++ [Ch.ro 0 (Sl (some ⟨b22, 0, none⟩) ([0, 99, 100] : List Int) 3) ([0, 99, 100] : List Int), Ch.ro n0 (Sl (some ⟨b22, 0, none⟩) ([0, 99, 100] : List Int) 3) ([0, 99, 100] : List Int), Ch.ro 0 (Sl a17 r14.2.1 c18) r14.2.1, Ch.bx n0 b11 0 [(I r3.1.1), (Sl a6 r3.1.2.1 c7), (I r3.1.2.2)] [] [], Ch.own n0 n0 (Sl a6 r3.1.2.1 c7) r3.1.2.1, Ch.bx n0 b1 0 [(I 0), (.slice none 0 0), (I 0)] [] []]) from (H.sel' [2, 3, 0, 0, 1, 3, 4, 5, 6] rfl rfl))) wn ?_
   rintro _ σ31 ⟨_, ⟨a29, c30, rfl, rfl⟩, H, -⟩
   replace H : Hp S0 σ0 σ31 [Ch.bx lor_0 br_0 or_0 [(Sl a29 r26.2.1 c30), (I r26.2.2)] prer_0 sufr_0, Ch.ro 0 (Sl a29 r26.2.1 c30) r26.2.1, Ch.ro 0 (Sl (some ⟨b22, 0, none⟩) ([0, 99, 100] : List Int) 3) ([0, 99, 100] : List Int), Ch.ro n0 (Sl (some ⟨b22, 0, none⟩) ([0, 99, 100] : List Int) 3) ([0, 99, 100] : List Int), Ch.ro 0 (Sl a17 r14.2.1 c18) r14.2.1, Ch.bx n0 b11 0 [(I r3.1.1), (Sl a6 r3.1.2.1 c7), (I r3.1.2.2)] [] [], Ch.own n0 n0 (Sl a6 r3.1.2.1 c7) r3.1.2.1, Ch.bx n0 b1 0 [(I 0), (.slice none 0 0), (I 0)] [] []] := H
   replace H : Hp S0 σ0 σ31 [Ch.bx lor_0 br_0 or_0 [(Sl a29 r26.2.1 c30), (I r26.2.2)] prer_0 sufr_0, Ch.ro 0 (Sl a29 r26.2.1 c30) r26.2.1, Ch.bx n0 b11 0 [(I r3.1.1), (Sl a6 r3.1.2.1 c7), (I r3.1.2.2)] [] [], Ch.own n0 n0 (Sl a6 r3.1.2.1 c7) r3.1.2.1, Ch.bx n0 b1 0 [(I 0), (.slice none 0 0), (I 0)] [] []] := H.sel' [0, 1, 5, 6, 7] rfl rfl
   refine st (v := (pt b11 0)) (rv_fieldAddr (off := 0) (ft := 3) Tryd.underlying41 rfl ti3 rfl rfl) ?_
   refine st_exS (ex_store_box (k := 0) (cs := [(I r3.1.1), (Sl a6 r3.1.2.1 c7), (I r3.1.2.2)]) (vs := [(I r26.1)]) (cs' := [(I r26.1), (Sl a6 r3.1.2.1 c7), (I r3.1.2.2)]) H (i := 2) rfl ti3 rfl rfl rfl rfl rfl (Nat.le_of_ble_eq_true rfl) (by simp [plain]) rfl) wn ?_
   rintro σ32 ⟨H, -⟩
   refine w_end ?_
   refine q_blk ?_
   obtain rfl := Option.some.inj h
   exact ⟨rfl, _, σ32, a29, c30, a6, c7, fr_join ⟨rfl, rfl, rfl, trivial⟩, rfl, H.sel' [1, 2, 0, 3, 4] rfl rfl⟩
  ·replace h := bif_f hb21 h
   refine c_seq ?_
   refine rg ?_
   refine st (v := (B (r14.1 == 1))) (rv_eql (a := r14.1) (b := 1) rfl rfl) ?_
   refine st (v := (B (r14.1 == 1))) (rv_assign rfl) ?_
   refine w_end ?_
   refine q_then ?_
   refine cd_cond (r14.1 == 1) rfl (fun hb33 => ?_) (fun hb33 => ?_)
   ·replace h := bif_t hb33 h
    refine rg ?_
    refine st (v := (pt br_0 or_0)) (rv_move rfl) ?_
    obtain ⟨r34, hx35, h'⟩ := bind_some h
    clear h
    have h := h'; clear h'
    have hc36 := c_spec_anyVector (lor_0 := lor_0) (br_0 := br_0) (or_0 := or_0) (prer_0 := prer_0) (sufr_0 := sufr_0) (ar_0_0 := a17) (cr_0_0 := c18) hx35
    refine st_call (cx_call hc36 (ent_f hc36.fn rfl) hn0 (show Hp S0 σ0 _ ([Ch.bx lor_0 br_0 or_0 [(Sl a17 r14.2.1 c18), (I r14.2.2)] prer_0 sufr_0, Ch.ro 0 (Sl a17 r14.2.1 c18) r14.2.1] ++ [Ch.ro 0 (Sl a17 r14.2.1 c18) r14.2.1, Ch.bx n0 b11 0 [(I r3.1.1), (Sl a6 r3.1.2.1 c7), (I r3.1.2.2)] [] [], Ch.own n0 n0 (Sl a6 r3.1.2.1 c7) r3.1.2.1, Ch.ro 0 (Sl a8 r3.2.1 c9) r3.2.1, Ch.bx n0 b1 0 [(I 0), (.slice none 0 0), (I 0)] [] [], Ch.ro 0 (Sl ar_0_0 r_0.1 cr_0_0) r_0.1]) from (H.sel' [0, 1, 1, 2, 3, 4, 5, 6] rfl rfl))) wn ?_
    rintro _ σ41 ⟨_, ⟨a37, c38, a39, c40, rfl, rfl⟩, H, -⟩
    replace H : Hp S0 σ0 σ41 [Ch.own n0 n0 (Sl a37 r34.1 c38) r34.1, Ch.bx lor_0 br_0 or_0 [(Sl a39 r34.2.1 c40), (I r34.2.2)] prer_0 sufr_0, Ch.ro 0 (Sl a39 r34.2.1 c40) r34.2.1, Ch.ro 0 (Sl a17 r14.2.1 c18) r14.2.1, Ch.bx n0 b11 0 [(I r3.1.1), (Sl a6 r3.1.2.1 c7), (I r3.1.2.2)] [] [], Ch.own n0 n0 (Sl a6 r3.1.2.1 c7) r3.1.2.1, Ch.ro 0 (Sl a8 r3.2.1 c9) r3.2.1, Ch.bx n0 b1 0 [(I 0), (.slice none 0 0), (I 0)] [] [], Ch.ro 0 (Sl ar_0_0 r_0.1 cr_0_0) r_0.1] := H
    replace H : Hp S0 σ0 σ41 [Ch.own n0 n0 (Sl a37 r34.1 c38) r34.1, Ch.bx lor_0 br_0 or_0 [(Sl a39 r34.2.1 c40), (I r34.2.2)] prer_0 sufr_0, Ch.ro 0 (Sl a39 r34.2.1 c40) r34.2.1, Ch.bx n0 b11 0 [(I r3.1.1), (Sl a6 r3.1.2.1 c7), (I r3.1.2.2)] [] [], Ch.own n0 n0 (Sl a6 r3.1.2.1 c7) r3.1.2.1, Ch.bx n0 b1 0 [(I 0), (.slice none 0 0), (I 0)] [] []] := H.sel' [0, 1, 2, 4, 5, 7] rfl rfl
    refine st (v := (pt b11 1)) (rv_fieldAddr (off := 1) (ft := 39) Tryd.underlying41 rfl ti39 rfl rfl) ?_
    refine st_exS (ex_store_box (k := 1) (cs := [(I r3.1.1), (Sl a6 r3.1.2.1 c7), (I r3.1.2.2)]) (vs := [(Sl a37 r34.1 c38)]) (cs' := [(I r3.1.1), (Sl a37 r34.1 c38), (I r3.1.2.2)]) H (i := 3) rfl ti39 rfl rfl rfl rfl rfl (Nat.le_of_ble_eq_true rfl) (by simp [plain]) rfl) wn ?_
    rintro σ42 ⟨H, -⟩
    refine w_end ?_
    refine q_blk ?_
    obtain rfl := Option.some.inj h
    exact ⟨rfl, _, σ42, a39, c40, a37, c38, fr_join ⟨rfl, rfl, rfl, trivial⟩, rfl, H.sel' [2, 3, 0, 1, 5] rfl rfl⟩
   ·replace h := bif_f hb33 h
    refine c_seq ?_
    refine rg ?_
    refine st (v := (B (r14.1 == 2))) (rv_eql (a := r14.1) (b := 2) rfl rfl) ?_
    refine st (v := (B (r14.1 == 2))) (rv_assign rfl) ?_
    refine w_end ?_
    refine q_then ?_
    refine cd_cond (r14.1 == 2) rfl (fun hb43 => ?_) (fun hb43 => ?_)
    ·replace h := bif_t hb43 h
     refine rg ?_
     refine st (v := (pt br_0 or_0)) (rv_move rfl) ?_
     refine st_ex (ex_buildSlice (el := n0) (xs := ([-1, 16] : List Int)) (ps := [(0, (I (-1))), (1, (I 16))]) (cs := [(I (-1)), (I 16)]) H hn0 Tryd.underlying39 ti3 rfl rfl (by kernel_rfl) (.cons (c := [(I (-1))]) rfl (.cons (c := [(I 16)]) rfl (.nil))) rfl) wn ?_
     rintro _ σ45 ⟨b44, rfl, H, -⟩
     replace H : Hp S0 σ0 σ45 [Ch.own n0 n0 (Sl (some ⟨b44, 0, none⟩) ([-1, 16] : List Int) 2) ([-1, 16] : List Int), Ch.bx lor_0 br_0 or_0 [(Sl a17 r14.2.1 c18), (I r14.2.2)] prer_0 sufr_0, Ch.ro 0 (Sl a17 r14.2.1 c18) r14.2.1, Ch.bx n0 b11 0 [(I r3.1.1), (Sl a6 r3.1.2.1 c7), (I r3.1.2.2)] [] [], Ch.own n0 n0 (Sl a6 r3.1.2.1 c7) r3.1.2.1, Ch.bx n0 b1 0 [(I 0), (.slice none 0 0), (I 0)] [] []] := H.sel' [0, 1, 2, 3, 4, 6] rfl rfl
     obtain ⟨σ46, hw47, H, -⟩ := H.pub 0 rfl (Nat.le_refl _)
     rw [← hw47]; clear hw47
     replace H := H.roLow 0 0 rfl (Nat.zero_le _)
     obtain ⟨r48, hx49, h'⟩ := bind_some h
     clear h
     have h := h'; clear h'
     have hc50 := c_spec_reader_one (lor_0 := lor_0) (br_0 := br_0) (or_0 := or_0) (prer_0 := prer_0) (sufr_0 := sufr_0) (ar_0_0 := a17) (cr_0_0 := c18) (alist_1 := (some ⟨b44, 0, none⟩)) (clist_1 := 2) hx49
     refine st_call (cx_call hc50 (ent_f hc50.fn rfl) hn0 (show Hp S0 σ0 _ ([Ch.bx lor_0 br_0 or_0 [(Sl a17 r14.2.1 c18), (I r14.2.2)] prer_0 sufr_0, Ch.ro 0 (Sl a17 r14.2.1 c18) r14.2.1, Ch.ro 0 (Sl (some ⟨b44, 0, none⟩) ([-1, 16] : List Int) 2) ([-1, 16] : List Int)] ++ [Ch.ro 0 (Sl (some ⟨b44, 0, none⟩) ([-1, 16] : List Int) 2) ([-1, 16] : List Int), Ch.ro n0 (Sl (some ⟨b44, 0, none⟩) ([-1, 16] : List Int) 2) ([-1, 16] : List Int), Ch.ro 0 (Sl a17 r14.2.1 c18) r14.2.1, Ch.bx n0 b11 0 [(I r3.1.1), (Sl a6 r3.1.2.1 c7), (I r3.1.2.2)] [] [], Ch.own n0 n0 (Sl a6 r3.1.2.1 c7) r3.1.2.1, Ch.bx n0 b1 0 [(I 0), (.slice none 0 0), (I 0)] [] []]) from (H.sel' [2, 3, 0, 0, 1, 3, 4, 5, 6] rfl rfl))) wn ?_
     rintro _ σ53 ⟨_, ⟨a51, c52, rfl, rfl⟩, H, -⟩
     replace H : Hp S0 σ0 σ53 [Ch.bx lor_0 br_0 or_0 [(Sl a51 r48.2.1 c52), (I r48.2.2)] prer_0 sufr_0, Ch.ro 0 (Sl a51 r48.2.1 c52) r48.2.1, Ch.ro 0 (Sl (some ⟨b44, 0, none⟩) ([-1, 16] : List Int) 2) ([-1, 16] : List Int), Ch.ro n0 (Sl (some ⟨b44, 0, none⟩) ([-1, 16] : List Int) 2) ([-1, 16] : List Int), Ch.ro 0 (Sl a17 r14.2.1 c18) r14.2.1, Ch.bx n0 b11 0 [(I r3.1.1), (Sl a6 r3.1.2.1 c7), (I r3.1.2.2)] [] [], Ch.own n0 n0 (Sl a6 r3.1.2.1 c7) r3.1.2.1, Ch.bx n0 b1 0 [(I 0), (.slice none 0 0), (I 0)] [] []] := H
     replace H : Hp S0 σ0 σ53 [Ch.bx lor_0 br_0 or_0 [(Sl a51 r48.2.1 c52), (I r48.2.2)] prer_0 sufr_0, Ch.ro 0 (Sl a51 r48.2.1 c52) r48.2.1, Ch.bx n0 b11 0 [(I r3.1.1), (Sl a6 r3.1.2.1 c7), (I r3.1.2.2)] [] [], Ch.own n0 n0 (Sl a6 r3.1.2.1 c7) r3.1.2.1, Ch.bx n0 b1 0 [(I 0), (.slice none 0 0), (I 0)] [] []] := H.sel' [0, 1, 5, 6, 7] rfl rfl
     refine st (v := (pt b11 2)) (rv_fieldAddr (off := 2) (ft := 3) Tryd.underlying41 rfl ti3 rfl rfl) ?_
     refine st_exS (ex_store_box (k := 2) (cs := [(I r3.1.1), (Sl a6 r3.1.2.1 c7), (I r3.1.2.2)]) (vs := [(I r48.1)]) (cs' := [(I r3.1.1), (Sl a6 r3.1.2.1 c7), (I r48.1)]) H (i := 2) rfl ti3 rfl rfl rfl rfl rfl (Nat.le_of_ble_eq_true rfl) (by simp [plain]) rfl) wn ?_
     rintro σ54 ⟨H, -⟩
     refine w_end ?_
     refine q_blk ?_
     obtain rfl := Option.some.inj h
     exact ⟨rfl, _, σ54, a51, c52, a6, c7, fr_join ⟨rfl, rfl, rfl, trivial⟩, rfl, H.sel' [1, 2, 0, 3, 4] rfl rfl⟩
    ·replace h := bif_f hb43 h
     refine c_skip ?_
     refine q_blk ?_
     obtain rfl := Option.some.inj h
     exact ⟨rfl, _, σ19, a17, c18, a6, c7, fr_join ⟨rfl, rfl, rfl, trivial⟩, rfl, H.sel' [0, 1, 2, 3, 5] rfl rfl⟩
 ·clear hj
  have h := h'
  clear h' H
  rintro e a w ⟨rfl, ρ, σ55, a56, c57, a58, c59, rfl, rfl, H⟩
  refine q_then ?_
  refine c_seq ?_
  refine rg ?_
  have hc60 := H.cells 2 rfl
  refine st (v := (.agg #[(I o20.2.1), (Sl a58 o20.2.2.1 c59), (I o20.2.2.2)])) (rv_load (cs := [(I o20.2.1), (Sl a58 o20.2.2.1 c59), (I o20.2.2.2)]) Tryd.underlying41 rfl ti41 rfl rfl hc60) ?_
  refine st_exS (ex_store_box (k := 0) (cs := [(I 0), (.slice none 0 0), (I 0)]) (vs := [(I o20.2.1), (Sl a58 o20.2.2.1 c59), (I o20.2.2.2)]) (cs' := [(I o20.2.1), (Sl a58 o20.2.2.1 c59), (I o20.2.2.2)]) H (i := 4) rfl ti41 rfl rfl rfl rfl rfl (Nat.le_of_ble_eq_true rfl) (by simp [plain]) rfl) wn ?_
  rintro σ61 ⟨H, -⟩
  refine w_end ?_
  refine q_then ?_
  refine c_ret ?_
  obtain rfl := Option.some.inj h
  exact fin_ret (v := (.agg #[(I o20.2.1), (Sl a58 o20.2.2.1 c59), (I o20.2.2.2)])) (results_ok Tryd.results32 (res_cell rfl (run_cellRes (cs := [(I o20.2.1), (Sl a58 o20.2.2.1 c59), (I o20.2.2.2)]) Tryd.underlying41 rfl ti41 rfl (H.cells 0 rfl)) res_nil) rfl) ⟨a58, c59, a56, c57, rfl, rfl⟩ (H.sel' [4, 1, 2] rfl rfl)

theorem c_spec_anyStore {r_0 : (List UInt8) × Int} {ar_0_0 : Option Addr} {cr_0_0 : Nat} {lor_0 br_0 or_0 : Nat} {prer_0 sufr_0 : List Value} {r : (List (Int × (List Int) × Int)) × ((List UInt8) × Int)} (h : M.spec_anyStore r_0 = some r) :
    Cal2 Tryd.prog 19 [(pt br_0 or_0)] [Ch.bx lor_0 br_0 or_0 [(Sl ar_0_0 r_0.1 cr_0_0), (I r_0.2)] prer_0 sufr_0, Ch.ro 0 (Sl ar_0_0 r_0.1 cr_0_0) r_0.1] (fun n0 v L => ∃ (az1 : Option Addr), ∃ (cz2 : Nat), ∃ (az3 : Option Addr), ∃ (cz4 : Nat), v = (Sl az1 r.1 cz2) ∧ L = [Ch.own n0 n0 (Sl az1 r.1 cz2) r.1, Ch.bx lor_0 br_0 or_0 [(Sl az3 r.2.1 cz4), (I r.2.2)] prer_0 sufr_0, Ch.ro 0 (Sl az3 r.2.1 cz4) r.2.1]) := by
 refine cal2 (n := 30) Tryd.func19 rfl rfl rfl rfl ?_
 intro S0 σ0 n0 hn0 H
 unfold M.spec_anyStore at h
 refine c_seq ?_
 refine rg ?_
 refine st (v := (.slice none 0 0)) (rv_assign rfl) ?_
 refine w_end ?_
 refine q_then ?_
 refine c_seq ?_
 refine rg ?_
 refine st (v := (pt br_0 or_0)) (rv_move rfl) ?_
 obtain ⟨r1, hx2, h'⟩ := bind_some h
 clear h
 have h := h'; clear h'
 have hc3 := c_spec_someStore (lor_0 := lor_0) (br_0 := br_0) (or_0 := or_0) (prer_0 := prer_0) (sufr_0 := sufr_0) (ar_0_0 := ar_0_0) (cr_0_0 := cr_0_0) hx2
 refine st_call (cx_call hc3 (ent_f hc3.fn rfl) hn0 (show Hp S0 σ0 _ ([Ch.bx lor_0 br_0 or_0 [(Sl ar_0_0 r_0.1 cr_0_0), (I r_0.2)] prer_0 sufr_0, Ch.ro 0 (Sl ar_0_0 r_0.1 cr_0_0) r_0.1] ++ [Ch.ro 0 (Sl ar_0_0 r_0.1 cr_0_0) r_0.1]) from (H.sel' [0, 1, 1] rfl rfl))) wn ?_
 rintro _ σ8 ⟨_, ⟨a4, c5, a6, c7, rfl, rfl⟩, H, -⟩
 replace H : Hp S0 σ0 σ8 [Ch.own n0 n0 (Sl a4 r1.1 c5) r1.1, Ch.bx lor_0 br_0 or_0 [(Sl a6 r1.2.1 c7), (I r1.2.2)] prer_0 sufr_0, Ch.ro 0 (Sl a6 r1.2.1 c7) r1.2.1, Ch.ro 0 (Sl ar_0_0 r_0.1 cr_0_0) r_0.1] := H
 refine st (v := (Sl a4 r1.1 c5)) (rv_assign rfl) ?_
 refine w_end ?_
 refine q_then ?_
 refine c_seq ?_
 refine c_seq ?_
 refine rg ?_
 refine st (v := (pt br_0 or_0)) (rv_move rfl) ?_
 obtain ⟨r9, hx10, h'⟩ := bind_some h
 clear h
 have h := h'; clear h'
 have hc11 := c_spec_reader_pick (lor_0 := lor_0) (br_0 := br_0) (or_0 := or_0) (prer_0 := prer_0) (sufr_0 := sufr_0) (ar_0_0 := a6) (cr_0_0 := c7) hx10
 refine st_call (cx_call hc11 (ent_f hc11.fn rfl) hn0 (show Hp S0 σ0 _ ([Ch.bx lor_0 br_0 or_0 [(Sl a6 r1.2.1 c7), (I r1.2.2)] prer_0 sufr_0, Ch.ro 0 (Sl a6 r1.2.1 c7) r1.2.1] ++ [Ch.own n0 n0 (Sl a4 r1.1 c5) r1.1, Ch.ro 0 (Sl a6 r1.2.1 c7) r1.2.1, Ch.ro 0 (Sl ar_0_0 r_0.1 cr_0_0) r_0.1]) from (H.sel' [1, 2, 0, 2, 3] rfl rfl))) wn ?_
 rintro _ σ14 ⟨_, ⟨a12, c13, rfl, rfl⟩, H, -⟩
 replace H : Hp S0 σ0 σ14 [Ch.bx lor_0 br_0 or_0 [(Sl a12 r9.2.1 c13), (I r9.2.2)] prer_0 sufr_0, Ch.ro 0 (Sl a12 r9.2.1 c13) r9.2.1, Ch.own n0 n0 (Sl a4 r1.1 c5) r1.1, Ch.ro 0 (Sl a6 r1.2.1 c7) r1.2.1, Ch.ro 0 (Sl ar_0_0 r_0.1 cr_0_0) r_0.1] := H
 refine w_end ?_
 refine q_then ?_
 obtain ⟨o15, hj, h'⟩ := bind_some h
 clear h
 refine c_cut (fun e a w => e = .normal ∧ ∃ (ρ : Nat → Value) (σ : St) (aj1 : Option Addr) (cj2 : Nat) (aj3 : Option Addr) (cj4 : Nat), a = fr 30 (updL ρ [(0, (pt br_0 or_0)), (3, (Sl aj3 o15.2 cj4))]) ∧ w = σ.w ∧ Hp S0 σ0 σ [Ch.bx lor_0 br_0 or_0 [(Sl aj1 o15.1.1 cj2), (I o15.1.2)] prer_0 sufr_0, Ch.ro 0 (Sl aj1 o15.1.1 cj2) o15.1.1, Ch.own n0 n0 (Sl aj3 o15.2 cj4) o15.2]) ?_ ?_
 ·clear h'
  rename _ = some o15 => h
  refine c_blk ?_
  refine c_seq ?_
  refine rg ?_
  refine st (v := (B (r9.1 == 0))) (rv_eql (a := r9.1) (b := 0) rfl rfl) ?_
  refine st (v := (B (r9.1 == 0))) (rv_assign rfl) ?_
  refine w_end ?_
  refine q_then ?_
  refine cd_cond (r9.1 == 0) rfl (fun hb16 => ?_) (fun hb16 => ?_)
  ·replace h := bif_t hb16 h
   refine rg ?_
   refine st (v := (Sl a4 r1.1 c5)) (rv_move rfl) ?_
   refine st (v := (pt br_0 or_0)) (rv_move rfl) ?_
   obtain ⟨r17, hx18, h'⟩ := bind_some h
   clear h
   have h := h'; clear h'
   have hc19 := c_spec_anyItem (lor_0 := lor_0) (br_0 := br_0) (or_0 := or_0) (prer_0 := prer_0) (sufr_0 := sufr_0) (ar_0_0 := a12) (cr_0_0 := c13) hx18
   refine st_call (cx_call hc19 (ent_f hc19.fn rfl) hn0 (show Hp S0 σ0 _ ([Ch.bx lor_0 br_0 or_0 [(Sl a12 r9.2.1 c13), (I r9.2.2)] prer_0 sufr_0, Ch.ro 0 (Sl a12 r9.2.1 c13) r9.2.1] ++ [Ch.ro 0 (Sl a12 r9.2.1 c13) r9.2.1, Ch.own n0 n0 (Sl a4 r1.1 c5) r1.1, Ch.ro 0 (Sl a6 r1.2.1 c7) r1.2.1, Ch.ro 0 (Sl ar_0_0 r_0.1 cr_0_0) r_0.1]) from (H.sel' [0, 1, 1, 2, 3, 4] rfl rfl))) wn ?_
   rintro _ σ24 ⟨_, ⟨a20, c21, a22, c23, rfl, rfl⟩, H, -⟩
   replace H : Hp S0 σ0 σ24 [Ch.own n0 n0 (Sl a20 r17.1.2.1 c21) r17.1.2.1, Ch.bx lor_0 br_0 or_0 [(Sl a22 r17.2.1 c23), (I r17.2.2)] prer_0 sufr_0, Ch.ro 0 (Sl a22 r17.2.1 c23) r17.2.1, Ch.ro 0 (Sl a12 r9.2.1 c13) r9.2.1, Ch.own n0 n0 (Sl a4 r1.1 c5) r1.1, Ch.ro 0 (Sl a6 r1.2.1 c7) r1.2.1, Ch.ro 0 (Sl ar_0_0 r_0.1 cr_0_0) r_0.1] := H
   obtain ⟨σ25, hw26, H, -⟩ := H.pub 0 rfl (Nat.le_refl _)
   rw [← hw26]; clear hw26
   refine st_ex (ex_buildSlice (el := n0) (xs := ([(r17.1.1, r17.1.2.1, r17.1.2.2)] : List (Int × (List Int) × Int))) (ps := [(0, (.agg #[(I r17.1.1), (Sl a20 r17.1.2.1 c21), (I r17.1.2.2)]))]) (cs := [(I r17.1.1), (Sl a20 r17.1.2.1 c21), (I r17.1.2.2)]) H hn0 Tryd.underlying23 ti41 rfl rfl (by kernel_rfl) (.cons (c := [(I r17.1.1), (Sl a20 r17.1.2.1 c21), (I r17.1.2.2)]) ⟨[(I r17.1.1)], [(Sl a20 r17.1.2.1 c21), (I r17.1.2.2)], rfl, rfl, ⟨[(Sl a20 r17.1.2.1 c21)], [(I r17.1.2.2)], rfl, ⟨_, rfl, (H.ro 0 rfl)⟩, rfl⟩⟩ (.nil)) rfl) wn ?_
   rintro _ σ28 ⟨b27, rfl, H, -⟩
   replace H : Hp S0 σ0 σ28 [Ch.own n0 n0 (Sl (some ⟨b27, 0, none⟩) ([(r17.1.1, r17.1.2.1, r17.1.2.2)] : List (Int × (List Int) × Int)) 1) ([(r17.1.1, r17.1.2.1, r17.1.2.2)] : List (Int × (List Int) × Int)), Ch.bx lor_0 br_0 or_0 [(Sl a22 r17.2.1 c23), (I r17.2.2)] prer_0 sufr_0, Ch.ro 0 (Sl a22 r17.2.1 c23) r17.2.1, Ch.own n0 n0 (Sl a4 r1.1 c5) r1.1] := H.sel' [0, 2, 3, 5] rfl rfl
   obtain ⟨xs29, hx30, h'⟩ := bind_some h
   clear h
   have h := h'; clear h'
   refine st_ex (ex_append H (i := 3) rfl Tryd.underlying23 Tryd.underlying23 ti41 rfl rfl (by decide) (H.own 0 rfl).rd hx30 hn0 rfl rfl) wn ?_
   rintro _ σ33 ⟨a31, c32, rfl, H, -⟩
   refine st (v := (Sl a31 xs29 c32)) (rv_assign rfl) ?_
   refine w_end ?_
   refine q_blk ?_
   obtain rfl := Option.some.inj h
   exact ⟨rfl, _, σ33, a22, c23, a31, c32, fr_join ⟨rfl, rfl, trivial⟩, rfl, H.sel' [2, 3, 0] rfl rfl⟩
  ·replace h := bif_f hb16 h
   refine c_seq ?_
   refine rg ?_
   refine st (v := (B (r9.1 == 1))) (rv_eql (a := r9.1) (b := 1) rfl rfl) ?_
   refine st (v := (B (r9.1 == 1))) (rv_assign rfl) ?_
   refine w_end ?_
   refine q_then ?_
   refine cd_cond (r9.1 == 1) rfl (fun hb34 => ?_) (fun hb34 => ?_)
   ·replace h := bif_t hb34 h
    refine c_seq ?_
    refine rg ?_
    refine st (v := (Sl a4 r1.1 c5)) (rv_move rfl) ?_
    refine st (v := (I (r1.1.length : Int))) (rv_len Tryd.underlying23 rfl) ?_
    refine st (v := (B (decide (0 < (r1.1.length : Int))))) (rv_gtr (a := (r1.1.length : Int)) (b := 0) rfl rfl) ?_
    refine w_end ?_
    refine q_then ?_
    refine cd_cond (decide (0 < (r1.1.length : Int))) rfl (fun hb35 => ?_) (fun hb35 => ?_)
    ·replace h := bif_t hb35 h
     refine rg ?_
     refine st (v := (Sl a4 r1.1 c5)) (rv_move rfl) ?_
     refine st (v := (pt br_0 or_0)) (rv_move rfl) ?_
     refine st (v := (Sl a4 r1.1 c5)) (rv_move rfl) ?_
     refine st (v := (I (r1.1.length : Int))) (rv_len Tryd.underlying23 rfl) ?_
     obtain ⟨r36, hx37, h'⟩ := bind_some h
     clear h
     have h := h'; clear h'
     have hc38 := c_spec_reader_pick (lor_0 := lor_0) (br_0 := br_0) (or_0 := or_0) (prer_0 := prer_0) (sufr_0 := sufr_0) (ar_0_0 := a12) (cr_0_0 := c13) hx37
     refine st_call (cx_call hc38 (ent_f hc38.fn rfl) hn0 (show Hp S0 σ0 _ ([Ch.bx lor_0 br_0 or_0 [(Sl a12 r9.2.1 c13), (I r9.2.2)] prer_0 sufr_0, Ch.ro 0 (Sl a12 r9.2.1 c13) r9.2.1] ++ [Ch.ro 0 (Sl a12 r9.2.1 c13) r9.2.1, Ch.own n0 n0 (Sl a4 r1.1 c5) r1.1, Ch.ro 0 (Sl a6 r1.2.1 c7) r1.2.1, Ch.ro 0 (Sl ar_0_0 r_0.1 cr_0_0) r_0.1]) from (H.sel' [0, 1, 1, 2, 3, 4] rfl rfl))) wn ?_
     rintro _ σ41 ⟨_, ⟨a39, c40, rfl, rfl⟩, H, -⟩
     replace H : Hp S0 σ0 σ41 [Ch.bx lor_0 br_0 or_0 [(Sl a39 r36.2.1 c40), (I r36.2.2)] prer_0 sufr_0, Ch.ro 0 (Sl a39 r36.2.1 c40) r36.2.1, Ch.ro 0 (Sl a12 r9.2.1 c13) r9.2.1, Ch.own n0 n0 (Sl a4 r1.1 c5) r1.1, Ch.ro 0 (Sl a6 r1.2.1 c7) r1.2.1, Ch.ro 0 (Sl ar_0_0 r_0.1 cr_0_0) r_0.1] := H
     refine st (v := (pt br_0 or_0)) (rv_move rfl) ?_
     obtain ⟨r42, hx43, h'⟩ := bind_some h
     clear h
     have h := h'; clear h'
     have hc44 := c_spec_anyVector (lor_0 := lor_0) (br_0 := br_0) (or_0 := or_0) (prer_0 := prer_0) (sufr_0 := sufr_0) (ar_0_0 := a39) (cr_0_0 := c40) hx43
     refine st_call (cx_call hc44 (ent_f hc44.fn rfl) hn0 (show Hp S0 σ0 _ ([Ch.bx lor_0 br_0 or_0 [(Sl a39 r36.2.1 c40), (I r36.2.2)] prer_0 sufr_0, Ch.ro 0 (Sl a39 r36.2.1 c40) r36.2.1] ++ [Ch.ro 0 (Sl a39 r36.2.1 c40) r36.2.1, Ch.ro 0 (Sl a12 r9.2.1 c13) r9.2.1, Ch.own n0 n0 (Sl a4 r1.1 c5) r1.1, Ch.ro 0 (Sl a6 r1.2.1 c7) r1.2.1, Ch.ro 0 (Sl ar_0_0 r_0.1 cr_0_0) r_0.1]) from (H.sel' [0, 1, 1, 2, 3, 4, 5] rfl rfl))) wn ?_
     rintro _ σ49 ⟨_, ⟨a45, c46, a47, c48, rfl, rfl⟩, H, -⟩
     replace H : Hp S0 σ0 σ49 [Ch.own n0 n0 (Sl a45 r42.1 c46) r42.1, Ch.bx lor_0 br_0 or_0 [(Sl a47 r42.2.1 c48), (I r42.2.2)] prer_0 sufr_0, Ch.ro 0 (Sl a47 r42.2.1 c48) r42.2.1, Ch.ro 0 (Sl a39 r36.2.1 c40) r36.2.1, Ch.ro 0 (Sl a12 r9.2.1 c13) r9.2.1, Ch.own n0 n0 (Sl a4 r1.1 c5) r1.1, Ch.ro 0 (Sl a6 r1.2.1 c7) r1.2.1, Ch.ro 0 (Sl ar_0_0 r_0.1 cr_0_0) r_0.1] := H
     replace H : Hp S0 σ0 σ49 [Ch.own n0 n0 (Sl a45 r42.1 c46) r42.1, Ch.bx lor_0 br_0 or_0 [(Sl a47 r42.2.1 c48), (I r42.2.2)] prer_0 sufr_0, Ch.ro 0 (Sl a47 r42.2.1 c48) r42.2.1, Ch.own n0 n0 (Sl a4 r1.1 c5) r1.1] := H.sel' [0, 1, 2, 5] rfl rfl
     obtain ⟨x50, hx51, h'⟩ := bind_some h
     clear h
     have h := h'; clear h'
     obtain ⟨b53, o54, hi52, -⟩ := (H.own 3 rfl).ix hx51
     refine st (v := (pt b53 o54)) (rv_ix Tryd.underlying23 ti41 rfl rfl hi52) ?_
     refine st (v := (pt b53 (o54 + 1))) (rv_fieldAddr (off := 1) (ft := 39) Tryd.underlying41 rfl ti39 rfl rfl) ?_
     obtain ⟨σ55, hw56, H, -⟩ := H.pub 0 rfl (Nat.le_refl _)
     rw [← hw56]; clear hw56
     refine st_exS (ex_store_own (e' := (x50.1, r42.1, x50.2.2)) (vs := [(Sl a45 r42.1 c46)]) (k := 1) H (i := 3) rfl ti39 hx51 hi52 rfl rfl rfl rfl rfl (Nat.le_of_ble_eq_true rfl) (by simp [plain]) (by rintro _ ⟨_, _, rfl, rfl, ⟨_, _, rfl, ⟨_, rfl, hR59⟩, rfl⟩⟩; exact ⟨[(I x50.1)], [(Sl a45 r42.1 c46), (I x50.2.2)], rfl, rfl, ⟨[(Sl a45 r42.1 c46)], [(I x50.2.2)], rfl, ⟨_, rfl, (H.ro 0 rfl)⟩, rfl⟩⟩)) wn ?_
     rintro σ60 ⟨H, -⟩
     have hsl : (Sl a4 r1.1 c5) = (Sl a4 (r1.1.set r36.1.toNat (x50.1, r42.1, x50.2.2)) c5) := sl_len List.length_set.symm
     rw [hsl]; rw [hsl] at H; clear hsl
     refine w_end ?_
     refine q_blk ?_
     obtain rfl := Option.some.inj h
     exact ⟨rfl, _, σ60, a47, c48, a4, c5, fr_join ⟨rfl, rfl, trivial⟩, rfl, H.sel' [2, 3, 0] rfl rfl⟩
    ·replace h := bif_f hb35 h
     refine c_skip ?_
     refine q_blk ?_
     obtain rfl := Option.some.inj h
     exact ⟨rfl, _, σ14, a12, c13, a4, c5, fr_join ⟨rfl, rfl, trivial⟩, rfl, H.sel' [0, 1, 2] rfl rfl⟩
   ·replace h := bif_f hb34 h
    refine c_skip ?_
    refine q_blk ?_
    obtain rfl := Option.some.inj h
    exact ⟨rfl, _, σ14, a12, c13, a4, c5, fr_join ⟨rfl, rfl, trivial⟩, rfl, H.sel' [0, 1, 2] rfl rfl⟩
 ·clear hj
  have h := h'
  clear h' H
  rintro e a w ⟨rfl, ρ, σ61, a62, c63, a64, c65, rfl, rfl, H⟩
  refine q_then ?_
  refine c_seq ?_
  refine rg ?_
  refine st (v := (Sl a64 o15.2 c65)) (rv_move rfl) ?_
  refine st (v := (Sl a64 o15.2 c65)) (rv_assign rfl) ?_
  refine w_end ?_
  refine q_then ?_
  refine c_ret ?_
  obtain rfl := Option.some.inj h
  exact fin_ret (v := (Sl a64 o15.2 c65)) (results_ok Tryd.results19 (res_tmp (v := (Sl a64 o15.2 c65)) rfl res_nil) rfl) ⟨a64, c65, a62, c63, rfl, rfl⟩ (H.sel' [2, 0, 1] rfl rfl)

theorem c_spec_newReader {code_0 : List UInt8} {acode_0 : Option Addr} {ccode_0 : Nat} {r : ((List UInt8) × Int)} (h : M.spec_newReader code_0 = some r) :
    Cal2 Tryd.prog 20 [(Sl acode_0 code_0 ccode_0)] [Ch.ro 0 (Sl acode_0 code_0 ccode_0) code_0] (fun n0 v L => ∃ (bz1 : Nat), ∃ (az2 : Option Addr), ∃ (cz3 : Nat), v = (pt bz1 0) ∧ L = [Ch.bx n0 bz1 0 [(Sl az2 r.1 cz3), (I r.2)] [] [], Ch.ro 0 (Sl az2 r.1 cz3) r.1]) := by
 refine cal2 (n := 11) Tryd.func20 rfl rfl rfl rfl ?_
 intro S0 σ0 n0 hn0 H
 unfold M.spec_newReader at h
 refine c_seq ?_
 refine rg ?_
 refine st (v := (.pointer none)) (rv_assign rfl) ?_
 refine w_end ?_
 refine q_then ?_
 refine c_seq ?_
 refine c_seq ?_
 refine rg ?_
 refine st (v := (Sl acode_0 code_0 ccode_0)) (rv_move rfl) ?_
 refine st (v := (I (code_0.length : Int))) (rv_len Tryd.underlying22 rfl) ?_
 refine st (v := (B (decide (2000 < (code_0.length : Int))))) (rv_gtr (a := (code_0.length : Int)) (b := 2000) rfl rfl) ?_
 refine w_end ?_
 refine q_then ?_
 obtain ⟨o1, hj, h'⟩ := bind_some h
 clear h
 refine c_cut (fun e a w => e = .normal ∧ ∃ (ρ : Nat → Value) (σ : St) (aj1 : Option Addr) (cj2 : Nat), a = fr 11 (updL ρ [(0, (Sl aj1 o1 cj2))]) ∧ w = σ.w ∧ Hp S0 σ0 σ [Ch.ro 0 (Sl aj1 o1 cj2) o1]) ?_ ?_
 ·clear h'
  rename _ = some o1 => h
  refine cd_cond (decide (2000 < (code_0.length : Int))) rfl (fun hb2 => ?_) (fun hb2 => ?_)
  ·replace h := bif_t hb2 h
   refine rg ?_
   refine st (v := (Sl acode_0 code_0 ccode_0)) (rv_move rfl) ?_
   obtain ⟨xs3, hx4, h'⟩ := bind_some h
   clear h
   have h := h'; clear h'
   obtain ⟨a5, c6, hs7, hR8⟩ := (H.ro 0 rfl).slice hx4
   replace H := H.add (d := Ch.ro 0 (Sl a5 xs3 c6) xs3) hR8 (fun _ h => h)
   clear hR8
   refine st (v := (Sl a5 xs3 c6)) (rv_slice_h Tryd.underlying22 ti5 hs7 rfl rfl) ?_
   refine st (v := (Sl a5 xs3 c6)) (rv_assign rfl) ?_
   refine w_end ?_
   obtain rfl := Option.some.inj h
   exact ⟨rfl, _, σ0, a5, c6, fr_join ⟨rfl, trivial⟩, rfl, H.sel' [0] rfl rfl⟩
  ·replace h := bif_f hb2 h
   refine c_skip ?_
   obtain rfl := Option.some.inj h
   exact ⟨rfl, _, σ0, acode_0, ccode_0, fr_join ⟨rfl, trivial⟩, rfl, H.sel' [0] rfl rfl⟩
 ·clear hj
  have h := h'
  clear h' H
  rintro e a w ⟨rfl, ρ, σ9, a10, c11, rfl, rfl, H⟩
  refine q_then ?_
  refine c_seq ?_
  refine rg ?_
  refine st (v := (Sl a10 o1 c11)) (rv_move rfl) ?_
  refine st (v := (.agg #[(Sl a10 o1 c11), (I 0)])) (rv_build (ps := [(0, (Sl a10 o1 c11))]) Tryd.underlying54 ti54 (bp54 Tryd.underlying54) rfl (by kernel_rfl)) ?_
  refine st_ex (ex_box (cs := [(Sl a10 o1 c11), (I 0)]) H hn0 rfl rfl) wn ?_
  rintro _ σ13 ⟨b12, rfl, H, -⟩
  refine st (v := (pt b12 0)) (rv_assign rfl) ?_
  refine w_end ?_
  refine q_then ?_
  refine c_ret ?_
  obtain rfl := Option.some.inj h
  exact fin_ret (v := (pt b12 0)) (results_ok Tryd.results20 (res_tmp (v := (pt b12 0)) rfl res_nil) rfl) ⟨b12, a10, c11, rfl, rfl⟩ (H.sel' [0, 1] rfl rfl)

theorem c_spec_DrawFormatPage {code_0 : List UInt8} {acode_0 : Option Addr} {ccode_0 : Nat} {r : (List (Int × (List Int) × Int))} (h : M.spec_DrawFormatPage code_0 = some r) :
    Cal2 Tryd.prog 6 [(Sl acode_0 code_0 ccode_0)] [Ch.ro 0 (Sl acode_0 code_0 ccode_0) code_0] (fun n0 v L => ∃ (az1 : Option Addr), ∃ (cz2 : Nat), v = (Sl az1 r cz2) ∧ L = [Ch.own n0 n0 (Sl az1 r cz2) r]) := by
 refine cal2 (n := 6) Tryd.func6 rfl rfl rfl rfl ?_
 intro S0 σ0 n0 hn0 H
 unfold M.spec_DrawFormatPage at h
 refine c_seq ?_
 refine rg ?_
 refine st (v := (.slice none 0 0)) (rv_assign rfl) ?_
 refine w_end ?_
 refine q_then ?_
 refine c_seq ?_
 refine rg ?_
 refine st (v := (Sl acode_0 code_0 ccode_0)) (rv_move rfl) ?_
 obtain ⟨r1, hx2, h'⟩ := bind_some h
 clear h
 have h := h'; clear h'
 have hc3 := c_spec_newReader (acode_0 := acode_0) (ccode_0 := ccode_0) hx2
 refine st_call (cx_call hc3 (ent_f hc3.fn rfl) hn0 (show Hp S0 σ0 _ ([Ch.ro 0 (Sl acode_0 code_0 ccode_0) code_0] ++ [Ch.ro 0 (Sl acode_0 code_0 ccode_0) code_0]) from (H.sel' [0, 0] rfl rfl))) wn ?_
 rintro _ σ7 ⟨_, ⟨b4, a5, c6, rfl, rfl⟩, H, -⟩
 replace H : Hp S0 σ0 σ7 [Ch.bx n0 b4 0 [(Sl a5 r1.1 c6), (I r1.2)] [] [], Ch.ro 0 (Sl a5 r1.1 c6) r1.1, Ch.ro 0 (Sl acode_0 code_0 ccode_0) code_0] := H
 obtain ⟨r8, hx9, h'⟩ := bind_some h
 clear h
 have h := h'; clear h'
 have hc10 := c_spec_anyStore (lor_0 := n0) (br_0 := b4) (or_0 := 0) (prer_0 := []) (sufr_0 := []) (ar_0_0 := a5) (cr_0_0 := c6) hx9
 refine st_call (cx_call hc10 (ent_f hc10.fn rfl) hn0 (show Hp S0 σ0 _ ([Ch.bx n0 b4 0 [(Sl a5 r1.1 c6), (I r1.2)] [] [], Ch.ro 0 (Sl a5 r1.1 c6) r1.1] ++ [Ch.ro 0 (Sl a5 r1.1 c6) r1.1, Ch.ro 0 (Sl acode_0 code_0 ccode_0) code_0]) from (H.sel' [0, 1, 1, 2] rfl rfl))) wn ?_
 rintro _ σ15 ⟨_, ⟨a11, c12, a13, c14, rfl, rfl⟩, H, -⟩
 replace H : Hp S0 σ0 σ15 [Ch.own n0 n0 (Sl a11 r8.1 c12) r8.1, Ch.bx n0 b4 0 [(Sl a13 r8.2.1 c14), (I r8.2.2)] [] [], Ch.ro 0 (Sl a13 r8.2.1 c14) r8.2.1, Ch.ro 0 (Sl a5 r1.1 c6) r1.1, Ch.ro 0 (Sl acode_0 code_0 ccode_0) code_0] := H
 refine st (v := (Sl a11 r8.1 c12)) (rv_assign rfl) ?_
 refine w_end ?_
 refine q_then ?_
 refine c_ret ?_
 obtain rfl := Option.some.inj h
 exact fin_ret (v := (Sl a11 r8.1 c12)) (results_ok Tryd.results6 (res_tmp (v := (Sl a11 r8.1 c12)) rfl res_nil) rfl) ⟨a11, c12, rfl, rfl⟩ (H.sel' [0] rfl rfl)

theorem c_impl_CheckOf {b_0 : List UInt8} {ab_0 : Option Addr} {cb_0 : Nat} {r : Int} (h : M.impl_CheckOf b_0 = some r) :
    Cal2 Tryd.prog 11 [(Sl ab_0 b_0 cb_0)] [Ch.ro 0 (Sl ab_0 b_0 cb_0) b_0] (fun n0 v L => v = (I r) ∧ L = []) := by
 refine cal2 (n := 23) Tryd.func11 rfl rfl rfl rfl ?_
 intro S0 σ0 n0 hn0 H
 unfold M.impl_CheckOf at h
 refine c_seq ?_
 refine rg ?_
 refine st (v := (I 0)) (rv_assign rfl) ?_
 refine w_end ?_
 refine q_then ?_
 refine c_seq ?_
 refine c_seq ?_
 refine rg ?_
 refine st (v := (Sl ab_0 b_0 cb_0)) (rv_move rfl) ?_
 refine st (v := (I (b_0.length : Int))) (rv_len Tryd.underlying22 rfl) ?_
 refine st (v := (B (decide (200 < (b_0.length : Int))))) (rv_gtr (a := (b_0.length : Int)) (b := 200) rfl rfl) ?_
 refine w_end ?_
 refine q_then ?_
 refine cd_cond (decide (200 < (b_0.length : Int))) rfl (fun hb1 => ?_) (fun hb1 => ?_)
 ·replace h := bif_t hb1 h
  refine c_seq ?_
  refine rg ?_
  refine st (v := (I (-1))) (rv_assign rfl) ?_
  refine w_end ?_
  refine q_then ?_
  refine c_ret ?_
  refine q_then_r ?_
  obtain rfl := Option.some.inj h
  exact fin_ret (v := (I (-1))) (results_ok Tryd.results11 (res_tmp (v := (I (-1))) rfl res_nil) rfl) ⟨rfl, rfl⟩ (H.sel' [] rfl rfl)
 ·replace h := bif_f hb1 h
  refine c_skip ?_
  refine q_then ?_
  refine c_seq ?_
  refine rg ?_
  refine st (v := (I 1)) (rv_assign rfl) ?_
  refine w_end ?_
  refine q_then ?_
  refine c_seq ?_
  refine c_seq ?_
  refine rg ?_
  refine st (v := (Sl ab_0 b_0 cb_0)) (rv_move rfl) ?_
  refine st (v := (I (b_0.length : Int))) (rv_len Tryd.underlying22 rfl) ?_
  refine st (v := (I 0)) (rv_move rfl) ?_
  refine w_end ?_
  refine q_then ?_
  obtain ⟨o2, hj, h'⟩ := bind_some h
  clear h
  refine c_cut (fun e a w => e = .normal ∧ ∃ (ρ : Nat → Value) (σ : St), a = fr 23 (updL ρ [(3, (I o2))]) ∧ w = σ.w ∧ Hp S0 σ0 σ []) ?_ ?_
  ·clear h'
   rename _ = some o2 => h
   refine c_blk ?_
   refine wp_loopM _ h (fun s3 a w => ∃ (ρ : Nat → Value) (σ : St), a = fr 23 (updL ρ [(3, (I s3.1)), (9, (Sl ab_0 b_0 cb_0)), (10, (I (b_0.length : Int))), (11, (I s3.2))]) ∧ w = σ.w ∧ Hp S0 σ0 σ [Ch.ro 0 (Sl ab_0 b_0 cb_0) b_0]) ⟨_, σ0, fr_join ⟨rfl, rfl, rfl, rfl, trivial⟩, rfl, H.sel' [0] rfl rfl⟩ ?_
   clear h H
   rintro s3 a w o ⟨ρ, σ4, rfl, rfl, H⟩ h hres
   refine c_seq ?_
   refine rg ?_
   refine st (v := (B (decide (s3.2 < (b_0.length : Int))))) (rv_lss (a := s3.2) (b := (b_0.length : Int)) rfl rfl) ?_
   refine w_end ?_
   refine q_then ?_
   refine c_seq ?_
   refine cd_cond (decide (s3.2 < (b_0.length : Int))) rfl (fun hb5 => ?_) (fun hb5 => ?_)
   ·replace h := bif_t hb5 h
    refine c_skip ?_
    refine q_then ?_
    refine c_seq ?_
    refine c_blk ?_
    refine c_seq ?_
    refine rg ?_
    obtain ⟨x6, hx7, h'⟩ := bind_some h
    clear h
    have h := h'; clear h'
    obtain ⟨b9, o10, hi8, -⟩ := (H.ro 0 rfl).ix hx7
    refine st (v := (pt b9 o10)) (rv_ix Tryd.underlying22 ti5 rfl rfl hi8) ?_
    have hc11 := ((H.ro 0 rfl).at hx7 hi8).byte
    refine st (v := (.int .u8 (x6.toNat : Int))) (rv_load1 Tryd.underlying5 rfl rfl hc11) ?_
    refine st (v := (.int .u8 (x6.toNat : Int))) (rv_assign rfl) ?_
    refine w_end ?_
    refine q_then ?_
    refine rg ?_
    refine st (v := (I s3.1)) (rv_move rfl) ?_
    refine st (v := (I (w64 (31 * s3.1)))) (rv_mul (a := 31) (b := s3.1) rfl rfl) ?_
    refine st (v := (.int .u8 (x6.toNat : Int))) (rv_move rfl) ?_
    refine st (v := (I (w64 (x6.toNat : Int)))) (rv_conv Tryd.underlying5 Tryd.underlying3 rfl) ?_
    refine st (v := (I (w64 ((w64 (31 * s3.1)) + (w64 (x6.toNat : Int)))))) (rv_add (a := (w64 (31 * s3.1))) (b := (w64 (x6.toNat : Int))) rfl rfl) ?_
    refine st (v := (I ((w64 ((w64 (31 * s3.1)) + (w64 (x6.toNat : Int)))).tmod 251))) (rv_rem (a := (w64 ((w64 (31 * s3.1)) + (w64 (x6.toNat : Int))))) (b := 251) rfl rfl (by decide)) ?_
    refine st (v := (I ((w64 ((w64 (31 * s3.1)) + (w64 (x6.toNat : Int)))).tmod 251))) (rv_assign rfl) ?_
    refine w_end ?_
    refine q_blk ?_
    refine q_then ?_
    refine rg ?_
    refine st (v := (I (w64 (s3.2 + 1)))) (rv_add (a := s3.2) (b := 1) rfl rfl) ?_
    refine st (v := (I (w64 (s3.2 + 1)))) (rv_move rfl) ?_
    refine w_end ?_
    refine q_then ?_
    obtain rfl := Option.some.inj h
    exact ⟨_, rfl, _, σ4, fr_join ⟨rfl, rfl, rfl, rfl, trivial⟩, rfl, H.sel' [0] rfl rfl⟩
   ·replace h := bif_f hb5 h
    refine c_exit ?_
    refine q_then_x ?_
    refine q_then_x ?_
    refine q_blk_hit ?_
    obtain rfl := Option.some.inj h
    obtain rfl := hres _ rfl
    exact ⟨rfl, _, σ4, fr_join ⟨rfl, trivial⟩, rfl, H.sel' [] rfl rfl⟩
  ·clear hj
   have h := h'
   clear h' H
   rintro e a w ⟨rfl, ρ, σ12, rfl, rfl, H⟩
   refine q_then ?_
   refine c_seq ?_
   refine rg ?_
   refine st (v := (I o2)) (rv_move rfl) ?_
   refine st (v := (I o2)) (rv_assign rfl) ?_
   refine w_end ?_
   refine q_then ?_
   refine c_ret ?_
   obtain rfl := Option.some.inj h
   exact fin_ret (v := (I o2)) (results_ok Tryd.results11 (res_tmp (v := (I o2)) rfl res_nil) rfl) ⟨rfl, rfl⟩ (H.sel' [] rfl rfl)

theorem c_impl_validKey {key_0 : Int}  {r : Bool} (h : M.impl_validKey key_0 = some r) :
    Cal2 Tryd.prog 45 [(I key_0)] [] (fun n0 v L => v = (B r) ∧ L = []) := by
 refine cal2 (n := 9) Tryd.func45 rfl rfl rfl rfl ?_
 intro S0 σ0 n0 hn0 H
 unfold M.impl_validKey at h
 refine c_seq ?_
 refine rg ?_
 refine st (v := (B false)) (rv_assign rfl) ?_
 refine w_end ?_
 refine q_then ?_
 refine c_seq ?_
 refine rg ?_
 refine st (v := (I key_0)) (rv_move rfl) ?_
 refine st (v := (B (decide (1 ≤ key_0)))) (rv_geq (a := key_0) (b := 1) rfl rfl) ?_
 refine st (v := (B (decide (1 ≤ key_0)))) (rv_move rfl) ?_
 rcases Bool.eq_false_or_eq_true (decide (1 ≤ key_0)) with hb1 | hb1
 ·replace h := bif_t hb1 h
  refine st_g (v := (I key_0)) (congrArg some hb1) (rv_move rfl) ?_
  refine st_g (v := (B (decide (key_0 ≤ 99)))) (congrArg some hb1) (rv_leq (a := key_0) (b := 99) rfl rfl) ?_
  refine st (v := (B (decide (key_0 ≤ 99)))) (rv_pick_t (congrArg B hb1) rfl) ?_
  refine st (v := (B (decide (key_0 ≤ 99)))) (rv_assign rfl) ?_
  refine w_end ?_
  refine q_then ?_
  refine c_ret ?_
  obtain rfl := Option.some.inj h
  exact fin_ret (v := (B (decide (key_0 ≤ 99)))) (results_ok Tryd.results45 (res_tmp (v := (B (decide (key_0 ≤ 99)))) rfl res_nil) rfl) ⟨rfl, rfl⟩ (H.sel' [] rfl rfl)
 ·replace h := bif_f hb1 h
  refine st_skip (congrArg some hb1) ?_
  refine st_skip (congrArg some hb1) ?_
  refine st (v := (B false)) (rv_pick_f (congrArg B hb1) rfl) ?_
  refine st (v := (B false)) (rv_assign rfl) ?_
  refine w_end ?_
  refine q_then ?_
  refine c_ret ?_
  obtain rfl := Option.some.inj h
  exact fin_ret (v := (B false)) (results_ok Tryd.results45 (res_tmp (v := (B false)) rfl res_nil) rfl) ⟨rfl, rfl⟩ (H.sel' [] rfl rfl)

theorem c_impl_validCoords {coords_0 : List Int} {acoords_0 : Option Addr} {ccoords_0 : Nat} {r : Bool} (h : M.impl_validCoords coords_0 = some r) :
    Cal2 Tryd.prog 53 [(Sl acoords_0 coords_0 ccoords_0)] [Ch.ro 0 (Sl acoords_0 coords_0 ccoords_0) coords_0] (fun n0 v L => v = (B r) ∧ L = []) := by
 refine cal2 (n := 18) Tryd.func53 rfl rfl rfl rfl ?_
 intro S0 σ0 n0 hn0 H
 unfold M.impl_validCoords at h
 refine c_seq ?_
 refine rg ?_
 refine st (v := (B false)) (rv_assign rfl) ?_
 refine w_end ?_
 refine q_then ?_
 refine c_seq ?_
 refine c_seq ?_
 refine rg ?_
 refine st (v := (Sl acoords_0 coords_0 ccoords_0)) (rv_move rfl) ?_
 refine st (v := (I (coords_0.length : Int))) (rv_len Tryd.underlying39 rfl) ?_
 refine st (v := (I 0)) (rv_move rfl) ?_
 refine w_end ?_
 refine q_then ?_
 obtain ⟨o1, hj, h'⟩ := bind_some h
 clear h
 refine c_cut (fun e a w => (∃ t, o1 = (.inl t) ∧ e = .normal ∧ ∃ (ρ : Nat → Value) (σ : St), a = fr 18 (updL ρ []) ∧ w = σ.w ∧ Hp S0 σ0 σ []) ∨ (∃ t, o1 = (.inr t) ∧ e = .ret ∧ ∃ (ρ : Nat → Value) (σ : St), a = fr 18 (updL ρ [(2, (B t))]) ∧ w = σ.w ∧ Hp S0 σ0 σ [])) ?_ ?_
 ·clear h'
  rename _ = some o1 => h
  refine c_blk ?_
  refine wp_loopM _ h (fun s2 a w => ∃ (ρ : Nat → Value) (σ : St), a = fr 18 (updL ρ [(5, (Sl acoords_0 coords_0 ccoords_0)), (6, (I (coords_0.length : Int))), (7, (I s2))]) ∧ w = σ.w ∧ Hp S0 σ0 σ [Ch.ro 0 (Sl acoords_0 coords_0 ccoords_0) coords_0]) ⟨_, σ0, fr_join ⟨rfl, rfl, rfl, trivial⟩, rfl, H.sel' [0] rfl rfl⟩ ?_
  clear h H
  rintro s2 a w o ⟨ρ, σ3, rfl, rfl, H⟩ h hres
  refine c_seq ?_
  refine rg ?_
  refine st (v := (B (decide (s2 < (coords_0.length : Int))))) (rv_lss (a := s2) (b := (coords_0.length : Int)) rfl rfl) ?_
  refine w_end ?_
  refine q_then ?_
  refine c_seq ?_
  refine cd_cond (decide (s2 < (coords_0.length : Int))) rfl (fun hb4 => ?_) (fun hb4 => ?_)
  ·replace h := bif_t hb4 h
   refine c_skip ?_
   refine q_then ?_
   refine c_seq ?_
   refine c_blk ?_
   refine c_seq ?_
   refine rg ?_
   obtain ⟨x5, hx6, h'⟩ := bind_some h
   clear h
   have h := h'; clear h'
   obtain ⟨b8, o9, hi7, -⟩ := (H.ro 0 rfl).ix hx6
   refine st (v := (pt b8 o9)) (rv_ix Tryd.underlying39 ti3 rfl rfl hi7) ?_
   have hc10 := ((H.ro 0 rfl).at hx6 hi7).int
   refine st (v := (I x5)) (rv_load1 Tryd.underlying3 rfl rfl hc10) ?_
   refine st (v := (I x5)) (rv_assign rfl) ?_
   refine w_end ?_
   refine q_then ?_
   refine c_seq ?_
   obtain ⟨o11, hj, h'⟩ := bind_some h
   clear h
   refine c_cut (fun e a w => e = .normal ∧ ∃ (ρ : Nat → Value) (σ : St), a = fr 18 (updL ρ [(5, (Sl acoords_0 coords_0 ccoords_0)), (6, (I (coords_0.length : Int))), (7, (I s2)), (16, (B o11))]) ∧ w = σ.w ∧ Hp S0 σ0 σ [Ch.ro 0 (Sl acoords_0 coords_0 ccoords_0) coords_0]) ?_ ?_
   ·clear h'
    rename _ = some o11 => h
    refine rg ?_
    refine st (v := (I x5)) (rv_move rfl) ?_
    refine st (v := (B (decide (x5 < (-100))))) (rv_lss (a := x5) (b := (-100)) rfl rfl) ?_
    refine st (v := (B (decide (x5 < (-100))))) (rv_move rfl) ?_
    rcases Bool.eq_false_or_eq_true (decide (x5 < (-100))) with hb12 | hb12
    ·replace h := bif_t hb12 h
     refine st_skip (congrArg some hb12) ?_
     refine st_skip (congrArg some hb12) ?_
     refine st (v := (B true)) (rv_pick_t (congrArg B hb12) rfl) ?_
     refine w_end ?_
     obtain rfl := Option.some.inj h
     exact ⟨rfl, _, σ3, fr_join ⟨rfl, rfl, rfl, rfl, trivial⟩, rfl, H.sel' [0] rfl rfl⟩
    ·replace h := bif_f hb12 h
     refine st_g (v := (I x5)) (congrArg some hb12) (rv_move rfl) ?_
     refine st_g (v := (B (decide (100 < x5)))) (congrArg some hb12) (rv_gtr (a := x5) (b := 100) rfl rfl) ?_
     refine st (v := (B (decide (100 < x5)))) (rv_pick_f (congrArg B hb12) rfl) ?_
     refine w_end ?_
     obtain rfl := Option.some.inj h
     exact ⟨rfl, _, σ3, fr_join ⟨rfl, rfl, rfl, rfl, trivial⟩, rfl, H.sel' [0] rfl rfl⟩
   ·clear hj
    have h := h'
    clear h' H
    rintro e a w ⟨rfl, ρ, σ13, rfl, rfl, H⟩
    refine q_then ?_
    refine cd_cond o11 rfl (fun hb14 => ?_) (fun hb14 => ?_)
    ·replace h := bif_t hb14 h
     refine c_seq ?_
     refine rg ?_
     refine st (v := (B false)) (rv_assign rfl) ?_
     refine w_end ?_
     refine q_then ?_
     refine c_ret ?_
     refine q_blk_r ?_
     refine q_then_r ?_
     refine q_then_r ?_
     refine q_blk_r ?_
     obtain rfl := Option.some.inj h
     obtain rfl := hres _ rfl
     exact .inr (⟨_, rfl, rfl, _, σ13, fr_join ⟨rfl, trivial⟩, rfl, H.sel' [] rfl rfl⟩)
    ·replace h := bif_f hb14 h
     refine c_skip ?_
     refine q_blk ?_
     refine q_then ?_
     refine rg ?_
     refine st (v := (I (w64 (s2 + 1)))) (rv_add (a := s2) (b := 1) rfl rfl) ?_
     refine st (v := (I (w64 (s2 + 1)))) (rv_move rfl) ?_
     refine w_end ?_
     refine q_then ?_
     obtain rfl := Option.some.inj h
     exact ⟨_, rfl, _, σ13, fr_join ⟨rfl, rfl, rfl, trivial⟩, rfl, H.sel' [0] rfl rfl⟩
  ·replace h := bif_f hb4 h
   refine c_exit ?_
   refine q_then_x ?_
   refine q_then_x ?_
   refine q_blk_hit ?_
   obtain rfl := Option.some.inj h
   obtain rfl := hres _ rfl
   exact .inl ⟨_, rfl, rfl, _, σ3, fr_join trivial, rfl, H.sel' [] rfl rfl⟩
 ·clear hj
  have h := h'
  clear h' H
  rintro e a w (⟨t15, rfl, rfl, ρ, σ16, rfl, rfl, H⟩ | ⟨t17, rfl, rfl, ρ, σ18, rfl, rfl, H⟩)
  ·replace h := selim_l h
   refine q_then ?_
   refine c_seq ?_
   refine rg ?_
   refine st (v := (B true)) (rv_assign rfl) ?_
   refine w_end ?_
   refine q_then ?_
   refine c_ret ?_
   obtain rfl := Option.some.inj h
   exact fin_ret (v := (B true)) (results_ok Tryd.results53 (res_tmp (v := (B true)) rfl res_nil) rfl) ⟨rfl, rfl⟩ (H.sel' [] rfl rfl)
  ·replace h := selim_r h
   refine q_then_r ?_
   obtain rfl := Option.some.inj h
   exact fin_ret (v := (B t17)) (results_ok Tryd.results53 (res_tmp (v := (B t17)) rfl res_nil) rfl) ⟨rfl, rfl⟩ (H.sel' [] rfl rfl)

theorem c_impl_ValidVector {v_0 : List Int} {av_0 : Option Addr} {cv_0 : Nat} {r : Bool} (h : M.impl_ValidVector v_0 = some r) :
    Cal2 Tryd.prog 46 [(Sl av_0 v_0 cv_0)] [Ch.ro 0 (Sl av_0 v_0 cv_0) v_0] (fun n0 v L => v = (B r) ∧ L = []) := by
 refine cal2 (n := 10) Tryd.func46 rfl rfl rfl rfl ?_
 intro S0 σ0 n0 hn0 H
 unfold M.impl_ValidVector at h
 refine c_seq ?_
 refine rg ?_
 refine st (v := (B false)) (rv_assign rfl) ?_
 refine w_end ?_
 refine q_then ?_
 refine c_seq ?_
 refine rg ?_
 refine st (v := (Sl av_0 v_0 cv_0)) (rv_move rfl) ?_
 refine st (v := (I (v_0.length : Int))) (rv_len Tryd.underlying39 rfl) ?_
 refine st (v := (B ((v_0.length : Int) == 4))) (rv_eql (a := (v_0.length : Int)) (b := 4) rfl rfl) ?_
 refine st (v := (B ((v_0.length : Int) == 4))) (rv_move rfl) ?_
 rcases Bool.eq_false_or_eq_true ((v_0.length : Int) == 4) with hb1 | hb1
 ·replace h := bif_t hb1 h
  refine st_g (v := (Sl av_0 v_0 cv_0)) (congrArg some hb1) (rv_move rfl) ?_
  obtain ⟨r2, hx3, h'⟩ := bind_some h
  clear h
  have h := h'; clear h'
  have hc4 := c_impl_validCoords (acoords_0 := av_0) (ccoords_0 := cv_0) hx3
  refine st_call (cx_call hc4 (ent_f hc4.fn rfl) hn0 (show Hp S0 σ0 _ ([Ch.ro 0 (Sl av_0 v_0 cv_0) v_0] ++ [Ch.ro 0 (Sl av_0 v_0 cv_0) v_0]) from (H.sel' [0, 0] rfl rfl))) (wanted_yes rfl (by exact (congrArg some hb1))) ?_
  rintro _ σ5 ⟨_, ⟨rfl, rfl⟩, H, -⟩
  replace H : Hp S0 σ0 σ5 [Ch.ro 0 (Sl av_0 v_0 cv_0) v_0] := H
  refine st (v := (B r2)) (rv_pick_t (congrArg B hb1) rfl) ?_
  refine st (v := (B r2)) (rv_assign rfl) ?_
  refine w_end ?_
  refine q_then ?_
  refine c_ret ?_
  obtain rfl := Option.some.inj h
  exact fin_ret (v := (B r2)) (results_ok Tryd.results46 (res_tmp (v := (B r2)) rfl res_nil) rfl) ⟨rfl, rfl⟩ (H.sel' [] rfl rfl)
 ·replace h := bif_f hb1 h
  refine st_skip (congrArg some hb1) ?_
  refine st_skip (congrArg some hb1) ?_
  refine st (v := (B false)) (rv_pick_f (congrArg B hb1) rfl) ?_
  refine st (v := (B false)) (rv_assign rfl) ?_
  refine w_end ?_
  refine q_then ?_
  refine c_ret ?_
  obtain rfl := Option.some.inj h
  exact fin_ret (v := (B false)) (results_ok Tryd.results46 (res_tmp (v := (B false)) rfl res_nil) rfl) ⟨rfl, rfl⟩ (H.sel' [] rfl rfl)

theorem c_impl_validTags {tags_0 : Int}  {r : Bool} (h : M.impl_validTags tags_0 = some r) :
    Cal2 Tryd.prog 47 [(I tags_0)] [] (fun n0 v L => v = (B r) ∧ L = []) := by
 refine cal2 (n := 9) Tryd.func47 rfl rfl rfl rfl ?_
 intro S0 σ0 n0 hn0 H
 unfold M.impl_validTags at h
 refine c_seq ?_
 refine rg ?_
 refine st (v := (B false)) (rv_assign rfl) ?_
 refine w_end ?_
 refine q_then ?_
 refine c_seq ?_
 refine rg ?_
 refine st (v := (I tags_0)) (rv_move rfl) ?_
 refine st (v := (B (decide (0 ≤ tags_0)))) (rv_geq (a := tags_0) (b := 0) rfl rfl) ?_
 refine st (v := (B (decide (0 ≤ tags_0)))) (rv_move rfl) ?_
 rcases Bool.eq_false_or_eq_true (decide (0 ≤ tags_0)) with hb1 | hb1
 ·replace h := bif_t hb1 h
  refine st_g (v := (I tags_0)) (congrArg some hb1) (rv_move rfl) ?_
  refine st_g (v := (B (decide (tags_0 ≤ 15)))) (congrArg some hb1) (rv_leq (a := tags_0) (b := 15) rfl rfl) ?_
  refine st (v := (B (decide (tags_0 ≤ 15)))) (rv_pick_t (congrArg B hb1) rfl) ?_
  refine st (v := (B (decide (tags_0 ≤ 15)))) (rv_assign rfl) ?_
  refine w_end ?_
  refine q_then ?_
  refine c_ret ?_
  obtain rfl := Option.some.inj h
  exact fin_ret (v := (B (decide (tags_0 ≤ 15)))) (results_ok Tryd.results47 (res_tmp (v := (B (decide (tags_0 ≤ 15)))) rfl res_nil) rfl) ⟨rfl, rfl⟩ (H.sel' [] rfl rfl)
 ·replace h := bif_f hb1 h
  refine st_skip (congrArg some hb1) ?_
  refine st_skip (congrArg some hb1) ?_
  refine st (v := (B false)) (rv_pick_f (congrArg B hb1) rfl) ?_
  refine st (v := (B false)) (rv_assign rfl) ?_
  refine w_end ?_
  refine q_then ?_
  refine c_ret ?_
  obtain rfl := Option.some.inj h
  exact fin_ret (v := (B false)) (results_ok Tryd.results47 (res_tmp (v := (B false)) rfl res_nil) rfl) ⟨rfl, rfl⟩ (H.sel' [] rfl rfl)

theorem c_impl_validItem {x_0 : Int × (List Int) × Int} {ax_0_1 : Option Addr} {cx_0_1 : Nat} {r : Bool} (h : M.impl_validItem x_0 = some r) :
    Cal2 Tryd.prog 34 [(.agg #[(I x_0.1), (Sl ax_0_1 x_0.2.1 cx_0_1), (I x_0.2.2)])] [Ch.ro 0 (Sl ax_0_1 x_0.2.1 cx_0_1) x_0.2.1] (fun n0 v L => v = (B r) ∧ L = []) := by
 refine cal2 (n := 16) Tryd.func34 rfl rfl rfl rfl ?_
 intro S0 σ0 n0 hn0 H
 unfold M.impl_validItem at h
 refine c_seq ?_
 refine rg ?_
 refine st_ex (ex_box (cs := [(I x_0.1), (Sl ax_0_1 x_0.2.1 cx_0_1), (I x_0.2.2)]) H hn0 rfl rfl) wn ?_
 rintro _ σ2 ⟨b1, rfl, H, -⟩
 refine st (v := (B false)) (rv_assign rfl) ?_
 refine w_end ?_
 refine q_then ?_
 refine c_seq ?_
 refine rg ?_
 refine st (v := (pt b1 0)) (rv_fieldAddr (off := 0) (ft := 3) Tryd.underlying41 rfl ti3 rfl rfl) ?_
 have hc3 := H.cell (u := (I x_0.1)) (o' := 0) 0 0 rfl rfl rfl
 refine st (v := (I x_0.1)) (rv_load1 Tryd.underlying3 rfl rfl hc3) ?_
 obtain ⟨r4, hx5, h'⟩ := bind_some h
 clear h
 have h := h'; clear h'
 have hc6 := c_impl_validKey hx5
 refine st_call (cx_call hc6 (ent_f hc6.fn rfl) hn0 (show Hp S0 σ0 _ ([] ++ [Ch.bx n0 b1 0 [(I x_0.1), (Sl ax_0_1 x_0.2.1 cx_0_1), (I x_0.2.2)] [] [], Ch.ro 0 (Sl ax_0_1 x_0.2.1 cx_0_1) x_0.2.1]) from (H.sel' [0, 1] rfl rfl))) wn ?_
 rintro _ σ7 ⟨_, ⟨rfl, rfl⟩, H, -⟩
 replace H : Hp S0 σ0 σ7 [Ch.bx n0 b1 0 [(I x_0.1), (Sl ax_0_1 x_0.2.1 cx_0_1), (I x_0.2.2)] [] [], Ch.ro 0 (Sl ax_0_1 x_0.2.1 cx_0_1) x_0.2.1] := H
 refine st (v := (B r4)) (rv_move rfl) ?_
 rcases Bool.eq_false_or_eq_true r4 with hb8 | hb8
 ·replace h := bif_t hb8 h
  refine st_g (v := (pt b1 1)) (congrArg some hb8) (rv_fieldAddr (off := 1) (ft := 39) Tryd.underlying41 rfl ti39 rfl rfl) ?_
  have hc9 := H.cell (u := (Sl ax_0_1 x_0.2.1 cx_0_1)) (o' := 1) 0 1 rfl rfl rfl
  refine st_g (v := (Sl ax_0_1 x_0.2.1 cx_0_1)) (congrArg some hb8) (rv_load1 Tryd.underlying39 rfl rfl hc9) ?_
  obtain ⟨r10, hx11, h'⟩ := bind_some h
  clear h
  have h := h'; clear h'
  have hc12 := c_impl_ValidVector (av_0 := ax_0_1) (cv_0 := cx_0_1) hx11
  refine st_call (cx_call hc12 (ent_f hc12.fn rfl) hn0 (show Hp S0 σ0 _ ([Ch.ro 0 (Sl ax_0_1 x_0.2.1 cx_0_1) x_0.2.1] ++ [Ch.bx n0 b1 0 [(I x_0.1), (Sl ax_0_1 x_0.2.1 cx_0_1), (I x_0.2.2)] [] [], Ch.ro 0 (Sl ax_0_1 x_0.2.1 cx_0_1) x_0.2.1]) from (H.sel' [1, 0, 1] rfl rfl))) (wanted_yes rfl (by exact (congrArg some hb8))) ?_
  rintro _ σ13 ⟨_, ⟨rfl, rfl⟩, H, -⟩
  replace H : Hp S0 σ0 σ13 [Ch.bx n0 b1 0 [(I x_0.1), (Sl ax_0_1 x_0.2.1 cx_0_1), (I x_0.2.2)] [] [], Ch.ro 0 (Sl ax_0_1 x_0.2.1 cx_0_1) x_0.2.1] := H
  refine st (v := (B r10)) (rv_pick_t (congrArg B hb8) rfl) ?_
  refine st (v := (B r10)) (rv_move rfl) ?_
  rcases Bool.eq_false_or_eq_true r10 with hb14 | hb14
  ·replace h := bif_t hb14 h
   refine st_g (v := (pt b1 2)) (congrArg some hb14) (rv_fieldAddr (off := 2) (ft := 3) Tryd.underlying41 rfl ti3 rfl rfl) ?_
   have hc15 := H.cell (u := (I x_0.2.2)) (o' := 2) 0 2 rfl rfl rfl
   refine st_g (v := (I x_0.2.2)) (congrArg some hb14) (rv_load1 Tryd.underlying3 rfl rfl hc15) ?_
   obtain ⟨r16, hx17, h'⟩ := bind_some h
   clear h
   have h := h'; clear h'
   have hc18 := c_impl_validTags hx17
   refine st_call (cx_call hc18 (ent_f hc18.fn rfl) hn0 (show Hp S0 σ0 _ ([] ++ [Ch.bx n0 b1 0 [(I x_0.1), (Sl ax_0_1 x_0.2.1 cx_0_1), (I x_0.2.2)] [] [], Ch.ro 0 (Sl ax_0_1 x_0.2.1 cx_0_1) x_0.2.1]) from (H.sel' [0, 1] rfl rfl))) (wanted_yes rfl (by exact (congrArg some hb14))) ?_
   rintro _ σ19 ⟨_, ⟨rfl, rfl⟩, H, -⟩
   replace H : Hp S0 σ0 σ19 [Ch.bx n0 b1 0 [(I x_0.1), (Sl ax_0_1 x_0.2.1 cx_0_1), (I x_0.2.2)] [] [], Ch.ro 0 (Sl ax_0_1 x_0.2.1 cx_0_1) x_0.2.1] := H
   refine st (v := (B r16)) (rv_pick_t (congrArg B hb14) rfl) ?_
   refine st (v := (B r16)) (rv_assign rfl) ?_
   refine w_end ?_
   refine q_then ?_
   refine c_ret ?_
   obtain rfl := Option.some.inj h
   exact fin_ret (v := (B r16)) (results_ok Tryd.results34 (res_tmp (v := (B r16)) rfl res_nil) rfl) ⟨rfl, rfl⟩ (H.sel' [] rfl rfl)
  ·replace h := bif_f hb14 h
   refine st_skip (congrArg some hb14) ?_
   refine st_skip (congrArg some hb14) ?_
   refine st_skip (congrArg some hb14) ?_
   refine st (v := (B false)) (rv_pick_f (congrArg B hb14) rfl) ?_
   refine st (v := (B false)) (rv_assign rfl) ?_
   refine w_end ?_
   refine q_then ?_
   refine c_ret ?_
   obtain rfl := Option.some.inj h
   exact fin_ret (v := (B false)) (results_ok Tryd.results34 (res_tmp (v := (B false)) rfl res_nil) rfl) ⟨rfl, rfl⟩ (H.sel' [] rfl rfl)
 ·replace h := bif_f hb8 h
  refine st_skip (congrArg some hb8) ?_
  refine st_skip (congrArg some hb8) ?_
  refine st_skip (congrArg some hb8) ?_
  refine st (v := (B false)) (rv_pick_f (congrArg B hb8) rfl) ?_
  refine st (v := (B false)) (rv_move rfl) ?_
  refine st_skip rfl ?_
  refine st_skip rfl ?_
  refine st_skip rfl ?_
  refine st (v := (B false)) (rv_pick_f rfl rfl) ?_
  refine st (v := (B false)) (rv_assign rfl) ?_
  refine w_end ?_
  refine q_then ?_
  refine c_ret ?_
  obtain rfl := Option.some.inj h
  exact fin_ret (v := (B false)) (results_ok Tryd.results34 (res_tmp (v := (B false)) rfl res_nil) rfl) ⟨rfl, rfl⟩ (H.sel' [] rfl rfl)

theorem c_impl_ValidStore {list_0 : List (Int × (List Int) × Int)} {alist_0 : Option Addr} {clist_0 : Nat} {r : Bool} (h : M.impl_ValidStore list_0 = some r) :
    Cal2 Tryd.prog 21 [(Sl alist_0 list_0 clist_0)] [Ch.ro 0 (Sl alist_0 list_0 clist_0) list_0] (fun n0 v L => v = (B r) ∧ L = []) := by
 refine cal2 (n := 27) Tryd.func21 rfl rfl rfl rfl ?_
 intro S0 σ0 n0 hn0 H
 unfold M.impl_ValidStore at h
 refine c_seq ?_
 refine rg ?_
 refine st (v := (B false)) (rv_assign rfl) ?_
 refine w_end ?_
 refine q_then ?_
 refine c_seq ?_
 refine c_seq ?_
 refine rg ?_
 refine st (v := (Sl alist_0 list_0 clist_0)) (rv_move rfl) ?_
 refine st (v := (I (list_0.length : Int))) (rv_len Tryd.underlying23 rfl) ?_
 refine st (v := (B (decide (16 < (list_0.length : Int))))) (rv_gtr (a := (list_0.length : Int)) (b := 16) rfl rfl) ?_
 refine w_end ?_
 refine q_then ?_
 refine cd_cond (decide (16 < (list_0.length : Int))) rfl (fun hb1 => ?_) (fun hb1 => ?_)
 ·replace h := bif_t hb1 h
  refine c_seq ?_
  refine rg ?_
  refine st (v := (B false)) (rv_assign rfl) ?_
  refine w_end ?_
  refine q_then ?_
  refine c_ret ?_
  refine q_then_r ?_
  obtain rfl := Option.some.inj h
  exact fin_ret (v := (B false)) (results_ok Tryd.results21 (res_tmp (v := (B false)) rfl res_nil) rfl) ⟨rfl, rfl⟩ (H.sel' [] rfl rfl)
 ·replace h := bif_f hb1 h
  refine c_skip ?_
  refine q_then ?_
  refine c_seq ?_
  refine rg ?_
  refine st (v := (I 0)) (rv_assign rfl) ?_
  refine w_end ?_
  refine q_then ?_
  refine c_seq ?_
  refine c_seq ?_
  refine rg ?_
  refine st (v := (Sl alist_0 list_0 clist_0)) (rv_move rfl) ?_
  refine st (v := (I (list_0.length : Int))) (rv_len Tryd.underlying23 rfl) ?_
  refine st (v := (I 0)) (rv_move rfl) ?_
  refine w_end ?_
  refine q_then ?_
  obtain ⟨o2, hj, h'⟩ := bind_some h
  clear h
  refine c_cut (fun e a w => (∃ t, o2 = (.inl t) ∧ e = .normal ∧ ∃ (ρ : Nat → Value) (σ : St), a = fr 27 (updL ρ []) ∧ w = σ.w ∧ Hp S0 σ0 σ []) ∨ (∃ t, o2 = (.inr t) ∧ e = .ret ∧ ∃ (ρ : Nat → Value) (σ : St), a = fr 27 (updL ρ [(2, (B t))]) ∧ w = σ.w ∧ Hp S0 σ0 σ [])) ?_ ?_
  ·clear h'
   rename _ = some o2 => h
   refine c_blk ?_
   refine wp_loopM _ h (fun s3 a w => ∃ (ρ : Nat → Value) (σ : St), a = fr 27 (updL ρ [(3, (I s3.1)), (9, (Sl alist_0 list_0 clist_0)), (10, (I (list_0.length : Int))), (11, (I s3.2))]) ∧ w = σ.w ∧ Hp S0 σ0 σ [Ch.ro 0 (Sl alist_0 list_0 clist_0) list_0]) ⟨_, σ0, fr_join ⟨rfl, rfl, rfl, rfl, trivial⟩, rfl, H.sel' [0] rfl rfl⟩ ?_
   clear h H
   rintro s3 a w o ⟨ρ, σ4, rfl, rfl, H⟩ h hres
   refine c_seq ?_
   refine rg ?_
   refine st (v := (B (decide (s3.2 < (list_0.length : Int))))) (rv_lss (a := s3.2) (b := (list_0.length : Int)) rfl rfl) ?_
   refine w_end ?_
   refine q_then ?_
   refine c_seq ?_
   refine cd_cond (decide (s3.2 < (list_0.length : Int))) rfl (fun hb5 => ?_) (fun hb5 => ?_)
   ·replace h := bif_t hb5 h
    refine c_skip ?_
    refine q_then ?_
    refine c_seq ?_
    refine c_blk ?_
    refine c_seq ?_
    refine rg ?_
    obtain ⟨x6, hx7, h'⟩ := bind_some h
    clear h
    have h := h'; clear h'
    obtain ⟨b9, o10, hi8, -⟩ := (H.ro 0 rfl).ix hx7
    refine st (v := (pt b9 o10)) (rv_ix Tryd.underlying23 ti41 rfl rfl hi8) ?_
    obtain ⟨_, ⟨_, _, rfl, rfl, ⟨_, _, rfl, ⟨_, rfl, hR15⟩, rfl⟩⟩, hl11, hc12⟩ := ((H.ro 0 rfl).at hx7 hi8).cells
    obtain ⟨a13, c14, rfl⟩ := hR15.isSl
    replace H := H.add (d := Ch.ro 0 (Sl a13 x6.2.1 c14) x6.2.1) hR15 (fun _ h => h)
    clear hR15
    refine st (v := (.agg #[(I x6.1), (Sl a13 x6.2.1 c14), (I x6.2.2)])) (rv_load Tryd.underlying41 rfl ti41 rfl hl11 hc12) ?_
    refine st_ex (ex_alloc (cs := [(I 0), (.slice none 0 0), (I 0)]) H hn0 ti41 rfl) wn ?_
    rintro _ σ17 ⟨b16, rfl, H, -⟩
    refine st_exS (ex_store_box (k := 0) (cs := [(I 0), (.slice none 0 0), (I 0)]) (vs := [(I x6.1), (Sl a13 x6.2.1 c14), (I x6.2.2)]) (cs' := [(I x6.1), (Sl a13 x6.2.1 c14), (I x6.2.2)]) H (i := 0) rfl ti41 rfl rfl rfl rfl rfl (Nat.le_of_ble_eq_true rfl) (by simp [plain]) rfl) wn ?_
    rintro σ18 ⟨H, -⟩
    refine w_end ?_
    refine q_then ?_
    refine c_seq ?_
    refine c_seq ?_
    obtain ⟨o19, hj, h'⟩ := bind_some h
    clear h
    refine c_cut (fun e a w => e = .normal ∧ ∃ (ρ : Nat → Value) (σ : St), a = fr 27 (updL ρ [(5, (pt b16 0)), (9, (Sl alist_0 list_0 clist_0)), (10, (I (list_0.length : Int))), (11, (I s3.2)), (23, (B o19))]) ∧ w = σ.w ∧ Hp S0 σ0 σ [Ch.ro 0 (Sl a13 x6.2.1 c14) x6.2.1, Ch.bx n0 b16 0 [(I x6.1), (Sl a13 x6.2.1 c14), (I x6.2.2)] [] [], Ch.ro 0 (Sl alist_0 list_0 clist_0) list_0]) ?_ ?_
    ·clear h'
     rename _ = some o19 => h
     refine rg ?_
     have hc20 := H.cells 0 rfl
     refine st (v := (.agg #[(I x6.1), (Sl a13 x6.2.1 c14), (I x6.2.2)])) (rv_load (cs := [(I x6.1), (Sl a13 x6.2.1 c14), (I x6.2.2)]) Tryd.underlying41 rfl ti41 rfl rfl hc20) ?_
     obtain ⟨r21, hx22, h'⟩ := bind_some h
     clear h
     have h := h'; clear h'
     have hc23 := c_impl_validItem (ax_0_1 := a13) (cx_0_1 := c14) hx22
     refine st_call (cx_call hc23 (ent_f hc23.fn rfl) hn0 (show Hp S0 σ0 _ ([Ch.ro 0 (Sl a13 x6.2.1 c14) x6.2.1] ++ [Ch.bx n0 b16 0 [(I x6.1), (Sl a13 x6.2.1 c14), (I x6.2.2)] [] [], Ch.ro 0 (Sl a13 x6.2.1 c14) x6.2.1, Ch.ro 0 (Sl alist_0 list_0 clist_0) list_0]) from (H.sel' [1, 0, 1, 2] rfl rfl))) wn ?_
     rintro _ σ24 ⟨_, ⟨rfl, rfl⟩, H, -⟩
     replace H : Hp S0 σ0 σ24 [Ch.bx n0 b16 0 [(I x6.1), (Sl a13 x6.2.1 c14), (I x6.2.2)] [] [], Ch.ro 0 (Sl a13 x6.2.1 c14) x6.2.1, Ch.ro 0 (Sl alist_0 list_0 clist_0) list_0] := H
     refine st (v := (B (!r21))) (rv_not rfl) ?_
     refine st (v := (B (!r21))) (rv_move rfl) ?_
     rcases Bool.eq_false_or_eq_true (!r21) with hb25 | hb25
     ·replace h := bif_t hb25 h
      refine st_skip (congrArg some hb25) ?_
      refine st_skip (congrArg some hb25) ?_
      refine st_skip (congrArg some hb25) ?_
      refine st_skip (congrArg some hb25) ?_
      refine st (v := (B true)) (rv_pick_t (congrArg B hb25) rfl) ?_
      refine w_end ?_
      obtain rfl := Option.some.inj h
      exact ⟨rfl, _, σ24, fr_join ⟨rfl, rfl, rfl, rfl, rfl, trivial⟩, rfl, H.sel' [1, 0, 2] rfl rfl⟩
     ·replace h := bif_f hb25 h
      refine st_g (v := (pt b16 0)) (congrArg some hb25) (rv_fieldAddr (off := 0) (ft := 3) Tryd.underlying41 rfl ti3 rfl rfl) ?_
      have hc26 := H.cell (u := (I x6.1)) (o' := 0) 0 0 rfl rfl rfl
      refine st_g (v := (I x6.1)) (congrArg some hb25) (rv_load1 Tryd.underlying3 rfl rfl hc26) ?_
      refine st_g (v := (I s3.1)) (congrArg some hb25) (rv_move rfl) ?_
      refine st_g (v := (B (decide (x6.1 ≤ s3.1)))) (congrArg some hb25) (rv_leq (a := x6.1) (b := s3.1) rfl rfl) ?_
      refine st (v := (B (decide (x6.1 ≤ s3.1)))) (rv_pick_f (congrArg B hb25) rfl) ?_
      refine w_end ?_
      obtain rfl := Option.some.inj h
      exact ⟨rfl, _, σ24, fr_join ⟨rfl, rfl, rfl, rfl, rfl, trivial⟩, rfl, H.sel' [1, 0, 2] rfl rfl⟩
    ·clear hj
     have h := h'
     clear h' H
     rintro e a w ⟨rfl, ρ, σ27, rfl, rfl, H⟩
     refine q_then ?_
     refine cd_cond o19 rfl (fun hb28 => ?_) (fun hb28 => ?_)
     ·replace h := bif_t hb28 h
      refine c_seq ?_
      refine rg ?_
      refine st (v := (B false)) (rv_assign rfl) ?_
      refine w_end ?_
      refine q_then ?_
      refine c_ret ?_
      refine q_then_r ?_
      refine q_blk_r ?_
      refine q_then_r ?_
      refine q_then_r ?_
      refine q_blk_r ?_
      obtain rfl := Option.some.inj h
      obtain rfl := hres _ rfl
      exact .inr (⟨_, rfl, rfl, _, σ27, fr_join ⟨rfl, trivial⟩, rfl, H.sel' [] rfl rfl⟩)
     ·replace h := bif_f hb28 h
      refine c_skip ?_
      refine q_then ?_
      refine rg ?_
      refine st (v := (pt b16 0)) (rv_fieldAddr (off := 0) (ft := 3) Tryd.underlying41 rfl ti3 rfl rfl) ?_
      have hc29 := H.cell (u := (I x6.1)) (o' := 0) 1 0 rfl rfl rfl
      refine st (v := (I x6.1)) (rv_load1 Tryd.underlying3 rfl rfl hc29) ?_
      refine st (v := (I x6.1)) (rv_assign rfl) ?_
      refine w_end ?_
      refine q_blk ?_
      refine q_then ?_
      refine rg ?_
      refine st (v := (I (w64 (s3.2 + 1)))) (rv_add (a := s3.2) (b := 1) rfl rfl) ?_
      refine st (v := (I (w64 (s3.2 + 1)))) (rv_move rfl) ?_
      refine w_end ?_
      refine q_then ?_
      obtain rfl := Option.some.inj h
      exact ⟨_, rfl, _, σ27, fr_join ⟨rfl, rfl, rfl, rfl, trivial⟩, rfl, H.sel' [2] rfl rfl⟩
   ·replace h := bif_f hb5 h
    refine c_exit ?_
    refine q_then_x ?_
    refine q_then_x ?_
    refine q_blk_hit ?_
    obtain rfl := Option.some.inj h
    obtain rfl := hres _ rfl
    exact .inl ⟨_, rfl, rfl, _, σ4, fr_join trivial, rfl, H.sel' [] rfl rfl⟩
  ·clear hj
   have h := h'
   clear h' H
   rintro e a w (⟨t30, rfl, rfl, ρ, σ31, rfl, rfl, H⟩ | ⟨t32, rfl, rfl, ρ, σ33, rfl, rfl, H⟩)
   ·replace h := selim_l h
    refine q_then ?_
    refine c_seq ?_
    refine rg ?_
    refine st (v := (B true)) (rv_assign rfl) ?_
    refine w_end ?_
    refine q_then ?_
    refine c_ret ?_
    obtain rfl := Option.some.inj h
    exact fin_ret (v := (B true)) (results_ok Tryd.results21 (res_tmp (v := (B true)) rfl res_nil) rfl) ⟨rfl, rfl⟩ (H.sel' [] rfl rfl)
   ·replace h := selim_r h
    refine q_then_r ?_
    obtain rfl := Option.some.inj h
    exact fin_ret (v := (B t32)) (results_ok Tryd.results21 (res_tmp (v := (B t32)) rfl res_nil) rfl) ⟨rfl, rfl⟩ (H.sel' [] rfl rfl)

theorem c_impl_FormatPage {list_0 : List (Int × (List Int) × Int)} {alist_0 : Option Addr} {clist_0 : Nat} {r : (List UInt8)} (h : M.impl_FormatPage list_0 = some r) :
    Cal2 Tryd.prog 7 [(Sl alist_0 list_0 clist_0)] [Ch.ro 0 (Sl alist_0 list_0 clist_0) list_0] (fun n0 v L => ∃ (az1 : Option Addr), ∃ (cz2 : Nat), v = (Sl az1 r cz2) ∧ L = [Ch.own n0 n0 (Sl az1 r cz2) r]) := by
 refine cal2 (n := 51) Tryd.func7 rfl rfl rfl rfl ?_
 intro S0 σ0 n0 hn0 H
 unfold M.impl_FormatPage at h
 refine c_seq ?_
 refine rg ?_
 refine st (v := (.slice none 0 0)) (rv_assign rfl) ?_
 refine w_end ?_
 refine q_then ?_
 refine c_seq ?_
 refine c_seq ?_
 refine rg ?_
 refine st (v := (Sl alist_0 list_0 clist_0)) (rv_move rfl) ?_
 obtain ⟨r1, hx2, h'⟩ := bind_some h
 clear h
 have h := h'; clear h'
 have hc3 := c_impl_ValidStore (alist_0 := alist_0) (clist_0 := clist_0) hx2
 refine st_call (cx_call hc3 (ent_f hc3.fn rfl) hn0 (show Hp S0 σ0 _ ([Ch.ro 0 (Sl alist_0 list_0 clist_0) list_0] ++ [Ch.ro 0 (Sl alist_0 list_0 clist_0) list_0]) from (H.sel' [0, 0] rfl rfl))) wn ?_
 rintro _ σ4 ⟨_, ⟨rfl, rfl⟩, H, -⟩
 replace H : Hp S0 σ0 σ4 [Ch.ro 0 (Sl alist_0 list_0 clist_0) list_0] := H
 refine st (v := (B (!r1))) (rv_not rfl) ?_
 refine w_end ?_
 refine q_then ?_
 refine cd_cond (!r1) rfl (fun hb5 => ?_) (fun hb5 => ?_)
 ·replace h := bif_t hb5 h
  refine c_seq ?_
  refine rg ?_
  refine st (v := (.slice none 0 0)) (rv_assign rfl) ?_
  refine w_end ?_
  refine q_then ?_
  refine c_ret ?_
  refine q_then_r ?_
  replace H := H.nilOwn UInt8 n0 n0
  obtain rfl := Option.some.inj h
  exact fin_ret (v := (.slice none 0 0)) (results_ok Tryd.results7 (res_tmp (v := (.slice none 0 0)) rfl res_nil) rfl) ⟨none, 0, rfl, rfl⟩ (H.sel' [0] rfl rfl)
 ·replace h := bif_f hb5 h
  refine c_skip ?_
  refine q_then ?_
  refine c_seq ?_
  refine rg ?_
  refine st (v := (Sl alist_0 list_0 clist_0)) (rv_move rfl) ?_
  refine st (v := (I (list_0.length : Int))) (rv_len Tryd.underlying23 rfl) ?_
  refine st (v := (.int .u8 ((gb8 (list_0.length : Int)).toNat : Int))) ((rvk_conv (k := .i64) (k' := .u8) (a := (list_0.length : Int)) Tryd.underlying3 Tryd.underlying5 rfl).b8) ?_
  refine st_ex (ex_buildSlice (el := n0) (xs := ([gb8 (list_0.length : Int)] : List UInt8)) (ps := [(0, (.int .u8 ((gb8 (list_0.length : Int)).toNat : Int)))]) (cs := [(.int .u8 ((gb8 (list_0.length : Int)).toNat : Int))]) H hn0 Tryd.underlying22 ti5 rfl rfl (by kernel_rfl) (.cons (c := [(.int .u8 ((gb8 (list_0.length : Int)).toNat : Int))]) rfl (.nil)) rfl) wn ?_
  rintro _ σ7 ⟨b6, rfl, H, -⟩
  refine st (v := (Sl (some ⟨b6, 0, none⟩) ([gb8 (list_0.length : Int)] : List UInt8) 1)) (rv_assign rfl) ?_
  refine w_end ?_
  refine q_then ?_
  refine c_seq ?_
  refine c_seq ?_
  refine rg ?_
  refine st (v := (Sl alist_0 list_0 clist_0)) (rv_move rfl) ?_
  refine st (v := (I (list_0.length : Int))) (rv_len Tryd.underlying23 rfl) ?_
  refine st (v := (I 0)) (rv_move rfl) ?_
  refine w_end ?_
  refine q_then ?_
  obtain ⟨o8, hj, h'⟩ := bind_some h
  clear h
  refine c_cut (fun e a w => e = .normal ∧ ∃ (ρ : Nat → Value) (σ : St) (aj1 : Option Addr) (cj2 : Nat), a = fr 51 (updL ρ [(3, (Sl aj1 o8 cj2))]) ∧ w = σ.w ∧ Hp S0 σ0 σ [Ch.own n0 n0 (Sl aj1 o8 cj2) o8]) ?_ ?_
  ·clear h'
   rename _ = some o8 => h
   refine c_blk ?_
   refine wp_loopM _ h (fun s9 a w => ∃ (ρ : Nat → Value) (σ : St) (aj1 : Option Addr) (cj2 : Nat), a = fr 51 (updL ρ [(3, (Sl aj1 s9.1 cj2)), (15, (Sl alist_0 list_0 clist_0)), (16, (I (list_0.length : Int))), (17, (I s9.2))]) ∧ w = σ.w ∧ Hp S0 σ0 σ [Ch.own n0 n0 (Sl aj1 s9.1 cj2) s9.1, Ch.ro 0 (Sl alist_0 list_0 clist_0) list_0]) ⟨_, σ7, (some ⟨b6, 0, none⟩), 1, fr_join ⟨rfl, rfl, rfl, rfl, trivial⟩, rfl, H.sel' [0, 1] rfl rfl⟩ ?_
   clear h H
   rintro s9 a w o ⟨ρ, σ10, a11, c12, rfl, rfl, H⟩ h hres
   refine c_seq ?_
   refine rg ?_
   refine st (v := (B (decide (s9.2 < (list_0.length : Int))))) (rv_lss (a := s9.2) (b := (list_0.length : Int)) rfl rfl) ?_
   refine w_end ?_
   refine q_then ?_
   refine c_seq ?_
   refine cd_cond (decide (s9.2 < (list_0.length : Int))) rfl (fun hb13 => ?_) (fun hb13 => ?_)
   ·replace h := bif_t hb13 h
    refine c_skip ?_
    refine q_then ?_
    refine c_seq ?_
    refine c_blk ?_
    refine c_seq ?_
    refine rg ?_
    obtain ⟨x14, hx15, h'⟩ := bind_some h
    clear h
    have h := h'; clear h'
    obtain ⟨b17, o18, hi16, -⟩ := (H.ro 1 rfl).ix hx15
    refine st (v := (pt b17 o18)) (rv_ix Tryd.underlying23 ti41 rfl rfl hi16) ?_
    obtain ⟨_, ⟨_, _, rfl, rfl, ⟨_, _, rfl, ⟨_, rfl, hR23⟩, rfl⟩⟩, hl19, hc20⟩ := ((H.ro 1 rfl).at hx15 hi16).cells
    obtain ⟨a21, c22, rfl⟩ := hR23.isSl
    replace H := H.add (d := Ch.ro 0 (Sl a21 x14.2.1 c22) x14.2.1) hR23 (fun _ h => h)
    clear hR23
    refine st (v := (.agg #[(I x14.1), (Sl a21 x14.2.1 c22), (I x14.2.2)])) (rv_load Tryd.underlying41 rfl ti41 rfl hl19 hc20) ?_
    refine st_ex (ex_alloc (cs := [(I 0), (.slice none 0 0), (I 0)]) H hn0 ti41 rfl) wn ?_
    rintro _ σ25 ⟨b24, rfl, H, -⟩
    refine st_exS (ex_store_box (k := 0) (cs := [(I 0), (.slice none 0 0), (I 0)]) (vs := [(I x14.1), (Sl a21 x14.2.1 c22), (I x14.2.2)]) (cs' := [(I x14.1), (Sl a21 x14.2.1 c22), (I x14.2.2)]) H (i := 0) rfl ti41 rfl rfl rfl rfl rfl (Nat.le_of_ble_eq_true rfl) (by simp [plain]) rfl) wn ?_
    rintro σ26 ⟨H, -⟩
    refine w_end ?_
    refine q_then ?_
    refine c_seq ?_
    refine rg ?_
    refine st (v := (Sl a11 s9.1 c12)) (rv_move rfl) ?_
    refine st (v := (pt b24 0)) (rv_fieldAddr (off := 0) (ft := 3) Tryd.underlying41 rfl ti3 rfl rfl) ?_
    have hc27 := H.cell (u := (I x14.1)) (o' := 0) 0 0 rfl rfl rfl
    refine st (v := (I x14.1)) (rv_load1 Tryd.underlying3 rfl rfl hc27) ?_
    refine st (v := (.int .u8 ((gb8 x14.1).toNat : Int))) ((rvk_conv (k := .i64) (k' := .u8) (a := x14.1) Tryd.underlying3 Tryd.underlying5 rfl).b8) ?_
    refine st (v := (pt b24 2)) (rv_fieldAddr (off := 2) (ft := 3) Tryd.underlying41 rfl ti3 rfl rfl) ?_
    have hc28 := H.cell (u := (I x14.2.2)) (o' := 2) 0 2 rfl rfl rfl
    refine st (v := (I x14.2.2)) (rv_load1 Tryd.underlying3 rfl rfl hc28) ?_
    refine st (v := (.int .u8 ((gb8 x14.2.2).toNat : Int))) ((rvk_conv (k := .i64) (k' := .u8) (a := x14.2.2) Tryd.underlying3 Tryd.underlying5 rfl).b8) ?_
    refine st_ex (ex_buildSlice (el := n0) (xs := ([gb8 x14.1, gb8 x14.2.2] : List UInt8)) (ps := [(0, (.int .u8 ((gb8 x14.1).toNat : Int))), (1, (.int .u8 ((gb8 x14.2.2).toNat : Int)))]) (cs := [(.int .u8 ((gb8 x14.1).toNat : Int)), (.int .u8 ((gb8 x14.2.2).toNat : Int))]) H hn0 Tryd.underlying22 ti5 rfl rfl (by kernel_rfl) (.cons (c := [(.int .u8 ((gb8 x14.1).toNat : Int))]) rfl (.cons (c := [(.int .u8 ((gb8 x14.2.2).toNat : Int))]) rfl (.nil))) rfl) wn ?_
    rintro _ σ30 ⟨b29, rfl, H, -⟩
    obtain ⟨xs31, hx32, h'⟩ := bind_some h
    clear h
    have h := h'; clear h'
    refine st_ex (ex_append H (i := 3) rfl Tryd.underlying22 Tryd.underlying22 ti5 rfl rfl (by decide) (H.own 0 rfl).rd hx32 hn0 rfl rfl) wn ?_
    rintro _ σ35 ⟨a33, c34, rfl, H, -⟩
    refine st (v := (Sl a33 xs31 c34)) (rv_assign rfl) ?_
    refine w_end ?_
    refine q_then ?_
    refine c_seq ?_
    refine rg ?_
    refine st (v := (pt b24 1)) (rv_fieldAddr (off := 1) (ft := 39) Tryd.underlying41 rfl ti39 rfl rfl) ?_
    have hc36 := H.cell (u := (Sl a21 x14.2.1 c22)) (o' := 1) 2 1 rfl rfl rfl
    refine st (v := (Sl a21 x14.2.1 c22)) (rv_load1 Tryd.underlying39 rfl rfl hc36) ?_
    refine st (v := (I (x14.2.1.length : Int))) (rv_len Tryd.underlying39 rfl) ?_
    refine st (v := (I 0)) (rv_move rfl) ?_
    refine w_end ?_
    refine q_then ?_
    obtain ⟨o37, hj, h'⟩ := bind_some h
    clear h
    refine c_cut (fun e a w => e = .normal ∧ ∃ (ρ : Nat → Value) (σ : St) (aj1 : Option Addr) (cj2 : Nat), a = fr 51 (updL ρ [(3, (Sl aj1 o37 cj2)), (15, (Sl alist_0 list_0 clist_0)), (16, (I (list_0.length : Int))), (17, (I s9.2))]) ∧ w = σ.w ∧ Hp S0 σ0 σ [Ch.own n0 n0 (Sl aj1 o37 cj2) o37, Ch.ro 0 (Sl alist_0 list_0 clist_0) list_0]) ?_ ?_
    ·clear h'
     rename _ = some o37 => h
     refine c_blk ?_
     refine wp_loopM _ h (fun s38 a w => ∃ (ρ : Nat → Value) (σ : St) (aj1 : Option Addr) (cj2 : Nat), a = fr 51 (updL ρ [(3, (Sl aj1 s38.1 cj2)), (15, (Sl alist_0 list_0 clist_0)), (16, (I (list_0.length : Int))), (17, (I s9.2)), (31, (Sl a21 x14.2.1 c22)), (32, (I (x14.2.1.length : Int))), (33, (I s38.2))]) ∧ w = σ.w ∧ Hp S0 σ0 σ [Ch.own n0 n0 (Sl aj1 s38.1 cj2) s38.1, Ch.ro 0 (Sl alist_0 list_0 clist_0) list_0, Ch.ro 0 (Sl a21 x14.2.1 c22) x14.2.1]) ⟨_, σ35, a33, c34, fr_join ⟨rfl, rfl, rfl, rfl, rfl, rfl, rfl, trivial⟩, rfl, H.sel' [0, 4, 3] rfl rfl⟩ ?_
     clear h H
     rintro s38 a w o ⟨ρ, σ39, a40, c41, rfl, rfl, H⟩ h hres
     refine c_seq ?_
     refine rg ?_
     refine st (v := (B (decide (s38.2 < (x14.2.1.length : Int))))) (rv_lss (a := s38.2) (b := (x14.2.1.length : Int)) rfl rfl) ?_
     refine w_end ?_
     refine q_then ?_
     refine c_seq ?_
     refine cd_cond (decide (s38.2 < (x14.2.1.length : Int))) rfl (fun hb42 => ?_) (fun hb42 => ?_)
     ·replace h := bif_t hb42 h
      refine c_skip ?_
      refine q_then ?_
      refine c_seq ?_
      refine c_blk ?_
      refine c_seq ?_
      refine rg ?_
      obtain ⟨x43, hx44, h'⟩ := bind_some h
      clear h
      have h := h'; clear h'
      obtain ⟨b46, o47, hi45, -⟩ := (H.ro 2 rfl).ix hx44
      refine st (v := (pt b46 o47)) (rv_ix Tryd.underlying39 ti3 rfl rfl hi45) ?_
      have hc48 := ((H.ro 2 rfl).at hx44 hi45).int
      refine st (v := (I x43)) (rv_load1 Tryd.underlying3 rfl rfl hc48) ?_
      refine st (v := (I x43)) (rv_assign rfl) ?_
      refine w_end ?_
      refine q_then ?_
      refine rg ?_
      refine st (v := (Sl a40 s38.1 c41)) (rv_move rfl) ?_
      refine st (v := (I x43)) (rv_move rfl) ?_
      refine st (v := (I (w64 (x43 + 128)))) (rv_add (a := x43) (b := 128) rfl rfl) ?_
      refine st (v := (.int .u8 ((gb8 (w64 (x43 + 128))).toNat : Int))) ((rvk_conv (k := .i64) (k' := .u8) (a := (w64 (x43 + 128))) Tryd.underlying3 Tryd.underlying5 rfl).b8) ?_
      refine st_ex (ex_buildSlice (el := n0) (xs := ([gb8 (w64 (x43 + 128))] : List UInt8)) (ps := [(0, (.int .u8 ((gb8 (w64 (x43 + 128))).toNat : Int)))]) (cs := [(.int .u8 ((gb8 (w64 (x43 + 128))).toNat : Int))]) H hn0 Tryd.underlying22 ti5 rfl rfl (by kernel_rfl) (.cons (c := [(.int .u8 ((gb8 (w64 (x43 + 128))).toNat : Int))]) rfl (.nil)) rfl) wn ?_
      rintro _ σ50 ⟨b49, rfl, H, -⟩
      obtain ⟨xs51, hx52, h'⟩ := bind_some h
      clear h
      have h := h'; clear h'
      refine st_ex (ex_append H (i := 1) rfl Tryd.underlying22 Tryd.underlying22 ti5 rfl rfl (by decide) (H.own 0 rfl).rd hx52 hn0 rfl rfl) wn ?_
      rintro _ σ55 ⟨a53, c54, rfl, H, -⟩
      refine st (v := (Sl a53 xs51 c54)) (rv_assign rfl) ?_
      refine w_end ?_
      refine q_blk ?_
      refine q_then ?_
      refine rg ?_
      refine st (v := (I (w64 (s38.2 + 1)))) (rv_add (a := s38.2) (b := 1) rfl rfl) ?_
      refine st (v := (I (w64 (s38.2 + 1)))) (rv_move rfl) ?_
      refine w_end ?_
      refine q_then ?_
      obtain rfl := Option.some.inj h
      exact ⟨_, rfl, _, σ55, a53, c54, fr_join ⟨rfl, rfl, rfl, rfl, rfl, rfl, rfl, trivial⟩, rfl, H.sel' [0, 2, 3] rfl rfl⟩
     ·replace h := bif_f hb42 h
      refine c_exit ?_
      refine q_then_x ?_
      refine q_then_x ?_
      refine q_blk_hit ?_
      obtain rfl := Option.some.inj h
      obtain rfl := hres _ rfl
      exact ⟨rfl, _, σ39, a40, c41, fr_join ⟨rfl, rfl, rfl, rfl, trivial⟩, rfl, H.sel' [0, 1] rfl rfl⟩
    ·clear hj
     have h := h'
     clear h' H
     rintro e a w ⟨rfl, ρ, σ56, a57, c58, rfl, rfl, H⟩
     refine q_blk ?_
     refine q_then ?_
     refine rg ?_
     refine st (v := (I (w64 (s9.2 + 1)))) (rv_add (a := s9.2) (b := 1) rfl rfl) ?_
     refine st (v := (I (w64 (s9.2 + 1)))) (rv_move rfl) ?_
     refine w_end ?_
     refine q_then ?_
     obtain rfl := Option.some.inj h
     exact ⟨_, rfl, _, σ56, a57, c58, fr_join ⟨rfl, rfl, rfl, rfl, trivial⟩, rfl, H.sel' [0, 1] rfl rfl⟩
   ·replace h := bif_f hb13 h
    refine c_exit ?_
    refine q_then_x ?_
    refine q_then_x ?_
    refine q_blk_hit ?_
    obtain rfl := Option.some.inj h
    obtain rfl := hres _ rfl
    exact ⟨rfl, _, σ10, a11, c12, fr_join ⟨rfl, trivial⟩, rfl, H.sel' [0] rfl rfl⟩
  ·clear hj
   have h := h'
   clear h' H
   rintro e a w ⟨rfl, ρ, σ59, a60, c61, rfl, rfl, H⟩
   refine q_then ?_
   refine c_seq ?_
   refine rg ?_
   refine st (v := (Sl a60 o8 c61)) (rv_move rfl) ?_
   refine st (v := (Sl a60 o8 c61)) (rv_move rfl) ?_
   obtain ⟨r62, hx63, h'⟩ := bind_some h
   clear h
   have h := h'; clear h'
   have hc64 := c_impl_CheckOf (ab_0 := a60) (cb_0 := c61) hx63
   have hle := Nat.le_trans hn0 H.size
   refine st_call (cx_lend (Loan.lend Loan.nil) hc64 (ent_f hc64.fn rfl) (show Hp S0 σ0 _ ([Ch.own n0 n0 (Sl a60 o8 c61) o8] ++ ([] ++ [])) from (H.sel' [0] rfl rfl)) (by rintro _ _ _ ⟨rfl, rfl⟩; exact trivial)) wn ?_
   rintro _ σ65 ⟨_, ⟨rfl, rfl⟩, H, -, -⟩
   replace H : Hp S0 σ0 σ65 [Ch.own n0 n0 (Sl a60 o8 c61) o8] := H
   clear hle
   replace H : Hp S0 σ0 σ65 [Ch.own n0 n0 (Sl a60 o8 c61) o8] := H
   refine st (v := (.int .u8 ((gb8 r62).toNat : Int))) ((rvk_conv (k := .i64) (k' := .u8) (a := r62) Tryd.underlying3 Tryd.underlying5 rfl).b8) ?_
   refine st_ex (ex_buildSlice (el := n0) (xs := ([gb8 r62] : List UInt8)) (ps := [(0, (.int .u8 ((gb8 r62).toNat : Int)))]) (cs := [(.int .u8 ((gb8 r62).toNat : Int))]) H hn0 Tryd.underlying22 ti5 rfl rfl (by kernel_rfl) (.cons (c := [(.int .u8 ((gb8 r62).toNat : Int))]) rfl (.nil)) rfl) wn ?_
   rintro _ σ67 ⟨b66, rfl, H, -⟩
   obtain ⟨xs68, hx69, h'⟩ := bind_some h
   clear h
   have h := h'; clear h'
   refine st_ex (ex_append H (i := 1) rfl Tryd.underlying22 Tryd.underlying22 ti5 rfl rfl (by decide) (H.own 0 rfl).rd hx69 hn0 rfl rfl) wn ?_
   rintro _ σ72 ⟨a70, c71, rfl, H, -⟩
   refine st (v := (Sl a70 xs68 c71)) (rv_assign rfl) ?_
   refine w_end ?_
   refine q_then ?_
   refine c_ret ?_
   obtain rfl := Option.some.inj h
   exact fin_ret (v := (Sl a70 xs68 c71)) (results_ok Tryd.results7 (res_tmp (v := (Sl a70 xs68 c71)) rfl res_nil) rfl) ⟨a70, c71, rfl, rfl⟩ (H.sel' [0] rfl rfl)

theorem c_laws_equalBytes {a_0 : List UInt8} {b_1 : List UInt8} {aa_0 : Option Addr} {ca_0 : Nat} {ab_1 : Option Addr} {cb_1 : Nat} {r : Bool} (h : M.laws_equalBytes a_0 b_1 = some r) :
    Cal2 Tryd.prog 8 [(Sl aa_0 a_0 ca_0), (Sl ab_1 b_1 cb_1)] [Ch.ro 0 (Sl aa_0 a_0 ca_0) a_0, Ch.ro 0 (Sl ab_1 b_1 cb_1) b_1] (fun n0 v L => v = (B r) ∧ L = []) := by
 refine cal2 (n := 26) Tryd.func8 rfl rfl rfl rfl ?_
 intro S0 σ0 n0 hn0 H
 unfold M.laws_equalBytes at h
 refine c_seq ?_
 refine rg ?_
 refine st (v := (B false)) (rv_assign rfl) ?_
 refine w_end ?_
 refine q_then ?_
 refine c_seq ?_
 refine c_seq ?_
 refine rg ?_
 refine st (v := (Sl aa_0 a_0 ca_0)) (rv_move rfl) ?_
 refine st (v := (I (a_0.length : Int))) (rv_len Tryd.underlying22 rfl) ?_
 refine st (v := (Sl ab_1 b_1 cb_1)) (rv_move rfl) ?_
 refine st (v := (I (b_1.length : Int))) (rv_len Tryd.underlying22 rfl) ?_
 refine st (v := (B ((a_0.length : Int) != (b_1.length : Int)))) (rv_neq (a := (a_0.length : Int)) (b := (b_1.length : Int)) rfl rfl) ?_
 refine w_end ?_
 refine q_then ?_
 refine cd_cond ((a_0.length : Int) != (b_1.length : Int)) rfl (fun hb1 => ?_) (fun hb1 => ?_)
 ·replace h := bif_t hb1 h
  refine c_seq ?_
  refine rg ?_
  refine st (v := (B false)) (rv_assign rfl) ?_
  refine w_end ?_
  refine q_then ?_
  refine c_ret ?_
  refine q_then_r ?_
  obtain rfl := Option.some.inj h
  exact fin_ret (v := (B false)) (results_ok Tryd.results8 (res_tmp (v := (B false)) rfl res_nil) rfl) ⟨rfl, rfl⟩ (H.sel' [] rfl rfl)
 ·replace h := bif_f hb1 h
  refine c_skip ?_
  refine q_then ?_
  refine c_seq ?_
  refine c_seq ?_
  refine rg ?_
  refine st (v := (I 0)) (rv_assign rfl) ?_
  refine w_end ?_
  refine q_then ?_
  obtain ⟨o2, hj, h'⟩ := bind_some h
  clear h
  refine c_cut (fun e a w => (∃ t, o2 = (.inl t) ∧ e = .normal ∧ ∃ (ρ : Nat → Value) (σ : St), a = fr 26 (updL ρ []) ∧ w = σ.w ∧ Hp S0 σ0 σ []) ∨ (∃ t, o2 = (.inr t) ∧ e = .ret ∧ ∃ (ρ : Nat → Value) (σ : St), a = fr 26 (updL ρ [(4, (B t))]) ∧ w = σ.w ∧ Hp S0 σ0 σ [])) ?_ ?_
  ·clear h'
   rename _ = some o2 => h
   refine c_blk ?_
   refine wp_loopM _ h (fun s3 a w => ∃ (ρ : Nat → Value) (σ : St), a = fr 26 (updL ρ [(0, (Sl aa_0 a_0 ca_0)), (1, (Sl ab_1 b_1 cb_1)), (5, (I s3))]) ∧ w = σ.w ∧ Hp S0 σ0 σ [Ch.ro 0 (Sl aa_0 a_0 ca_0) a_0, Ch.ro 0 (Sl ab_1 b_1 cb_1) b_1]) ⟨_, σ0, fr_join ⟨rfl, rfl, rfl, trivial⟩, rfl, H.sel' [0, 1] rfl rfl⟩ ?_
   clear h H
   rintro s3 a w o ⟨ρ, σ4, rfl, rfl, H⟩ h hres
   refine c_seq ?_
   refine c_seq ?_
   refine rg ?_
   refine st (v := (I s3)) (rv_move rfl) ?_
   refine st (v := (Sl aa_0 a_0 ca_0)) (rv_move rfl) ?_
   refine st (v := (I (a_0.length : Int))) (rv_len Tryd.underlying22 rfl) ?_
   refine st (v := (B (decide (s3 < (a_0.length : Int))))) (rv_lss (a := s3) (b := (a_0.length : Int)) rfl rfl) ?_
   refine w_end ?_
   refine q_then ?_
   refine cd_cond (decide (s3 < (a_0.length : Int))) rfl (fun hb5 => ?_) (fun hb5 => ?_)
   ·replace h := bif_t hb5 h
    refine c_skip ?_
    refine q_then ?_
    refine c_seq ?_
    refine c_blk ?_
    refine c_seq ?_
    refine rgP (σ := σ4) 8 (by kernel_rfl) (by kernel_rfl) (by kernel_rfl) ?_
    refine sq (v := (Sl aa_0 a_0 ca_0)) (rv_move rfl) ?_
    refine sq (v := (I s3)) (rv_move rfl) ?_
    obtain ⟨x6, hx7, h'⟩ := bind_some h
    clear h
    have h := h'; clear h'
    obtain ⟨b9, o10, hi8, -⟩ := (H.ro 0 rfl).ix hx7
    refine sq (v := (pt b9 o10)) (rv_ix Tryd.underlying22 ti5 rfl rfl hi8) ?_
    have hc11 := ((H.ro 0 rfl).at hx7 hi8).byte
    refine sq (v := (.int .u8 (x6.toNat : Int))) (rv_load1 Tryd.underlying5 rfl rfl hc11) ?_
    refine sq (v := (Sl ab_1 b_1 cb_1)) (rv_move rfl) ?_
    refine sq (v := (I s3)) (rv_move rfl) ?_
    obtain ⟨x12, hx13, h'⟩ := bind_some h
    clear h
    have h := h'; clear h'
    obtain ⟨b15, o16, hi14, -⟩ := (H.ro 1 rfl).ix hx13
    refine sq (v := (pt b15 o16)) (rv_ix Tryd.underlying22 ti5 rfl rfl hi14) ?_
    have hc17 := ((H.ro 1 rfl).at hx13 hi14).byte
    refine sq (v := (.int .u8 (x12.toNat : Int))) (rv_load1 Tryd.underlying5 rfl rfl hc17) ?_
    refine sq_end ?_
    intro σ18 hm19
    replace H := H.grow (hm19.mono fun _ h => h); clear hm19
    refine st (v := (B ((x6.toNat : Int) != (x12.toNat : Int)))) (rvk_neq (k := .u8) (a := (x6.toNat : Int)) (b := (x12.toNat : Int)) rfl rfl) ?_
    refine w_end ?_
    refine q_then ?_
    refine cd_cond ((x6.toNat : Int) != (x12.toNat : Int)) rfl (fun hb20 => ?_) (fun hb20 => ?_)
    ·replace h := bif_t hb20 h
     refine c_seq ?_
     refine rg ?_
     refine st (v := (B false)) (rv_assign rfl) ?_
     refine w_end ?_
     refine q_then ?_
     refine c_ret ?_
     refine q_blk_r ?_
     refine q_then_r ?_
     refine q_then_r ?_
     refine q_blk_r ?_
     obtain rfl := Option.some.inj h
     obtain rfl := hres _ rfl
     exact .inr (⟨_, rfl, rfl, _, σ18, fr_join ⟨rfl, trivial⟩, rfl, H.sel' [] rfl rfl⟩)
    ·replace h := bif_f hb20 h
     refine c_skip ?_
     refine q_blk ?_
     refine q_then ?_
     refine rg ?_
     refine st (v := (I s3)) (rv_move rfl) ?_
     refine st (v := (I (w64 (s3 + 1)))) (rv_add (a := s3) (b := 1) rfl rfl) ?_
     refine st (v := (I (w64 (s3 + 1)))) (rv_assign rfl) ?_
     refine w_end ?_
     refine q_then ?_
     obtain rfl := Option.some.inj h
     exact ⟨_, rfl, _, σ18, fr_join ⟨rfl, rfl, rfl, trivial⟩, rfl, H.sel' [0, 1] rfl rfl⟩
   ·replace h := bif_f hb5 h
    refine c_exit ?_
    refine q_then_x ?_
    refine q_then_x ?_
    refine q_blk_hit ?_
    obtain rfl := Option.some.inj h
    obtain rfl := hres _ rfl
    exact .inl ⟨_, rfl, rfl, _, σ4, fr_join trivial, rfl, H.sel' [] rfl rfl⟩
  ·clear hj
   have h := h'
   clear h' H
   rintro e a w (⟨t21, rfl, rfl, ρ, σ22, rfl, rfl, H⟩ | ⟨t23, rfl, rfl, ρ, σ24, rfl, rfl, H⟩)
   ·replace h := selim_l h
    refine q_then ?_
    refine c_seq ?_
    refine rg ?_
    refine st (v := (B true)) (rv_assign rfl) ?_
    refine w_end ?_
    refine q_then ?_
    refine c_ret ?_
    obtain rfl := Option.some.inj h
    exact fin_ret (v := (B true)) (results_ok Tryd.results8 (res_tmp (v := (B true)) rfl res_nil) rfl) ⟨rfl, rfl⟩ (H.sel' [] rfl rfl)
   ·replace h := selim_r h
    refine q_then_r ?_
    obtain rfl := Option.some.inj h
    exact fin_ret (v := (B t23)) (results_ok Tryd.results8 (res_tmp (v := (B t23)) rfl res_nil) rfl) ⟨rfl, rfl⟩ (H.sel' [] rfl rfl)

theorem c_spec_itemBytes {x_0 : Int × (List Int) × Int} {ax_0_1 : Option Addr} {cx_0_1 : Nat} {r : (List UInt8)} (h : M.spec_itemBytes x_0 = some r) :
    Cal2 Tryd.prog 23 [(.agg #[(I x_0.1), (Sl ax_0_1 x_0.2.1 cx_0_1), (I x_0.2.2)])] [Ch.ro 0 (Sl ax_0_1 x_0.2.1 cx_0_1) x_0.2.1] (fun n0 v L => ∃ (az1 : Option Addr), ∃ (cz2 : Nat), v = (Sl az1 r cz2) ∧ L = [Ch.own n0 n0 (Sl az1 r cz2) r]) := by
 refine cal2 (n := 30) Tryd.func23 rfl rfl rfl rfl ?_
 intro S0 σ0 n0 hn0 H
 unfold M.spec_itemBytes at h
 refine c_seq ?_
 refine rg ?_
 refine st_ex (ex_box (cs := [(I x_0.1), (Sl ax_0_1 x_0.2.1 cx_0_1), (I x_0.2.2)]) H hn0 rfl rfl) wn ?_
 rintro _ σ2 ⟨b1, rfl, H, -⟩
 refine st (v := (.slice none 0 0)) (rv_assign rfl) ?_
 refine w_end ?_
 refine q_then ?_
 refine c_seq ?_
 refine rg ?_
 refine st (v := (pt b1 0)) (rv_fieldAddr (off := 0) (ft := 3) Tryd.underlying41 rfl ti3 rfl rfl) ?_
 have hc3 := H.cell (u := (I x_0.1)) (o' := 0) 0 0 rfl rfl rfl
 refine st (v := (I x_0.1)) (rv_load1 Tryd.underlying3 rfl rfl hc3) ?_
 refine st (v := (.int .u8 ((gb8 x_0.1).toNat : Int))) ((rvk_conv (k := .i64) (k' := .u8) (a := x_0.1) Tryd.underlying3 Tryd.underlying5 rfl).b8) ?_
 refine st (v := (pt b1 2)) (rv_fieldAddr (off := 2) (ft := 3) Tryd.underlying41 rfl ti3 rfl rfl) ?_
 have hc4 := H.cell (u := (I x_0.2.2)) (o' := 2) 0 2 rfl rfl rfl
 refine st (v := (I x_0.2.2)) (rv_load1 Tryd.underlying3 rfl rfl hc4) ?_
 refine st (v := (.int .u8 ((gb8 x_0.2.2).toNat : Int))) ((rvk_conv (k := .i64) (k' := .u8) (a := x_0.2.2) Tryd.underlying3 Tryd.underlying5 rfl).b8) ?_
 refine st_ex (ex_buildSlice (el := n0) (xs := ([gb8 x_0.1, gb8 x_0.2.2] : List UInt8)) (ps := [(0, (.int .u8 ((gb8 x_0.1).toNat : Int))), (1, (.int .u8 ((gb8 x_0.2.2).toNat : Int)))]) (cs := [(.int .u8 ((gb8 x_0.1).toNat : Int)), (.int .u8 ((gb8 x_0.2.2).toNat : Int))]) H hn0 Tryd.underlying22 ti5 rfl rfl (by kernel_rfl) (.cons (c := [(.int .u8 ((gb8 x_0.1).toNat : Int))]) rfl (.cons (c := [(.int .u8 ((gb8 x_0.2.2).toNat : Int))]) rfl (.nil))) rfl) wn ?_
 rintro _ σ6 ⟨b5, rfl, H, -⟩
 refine st (v := (Sl (some ⟨b5, 0, none⟩) ([gb8 x_0.1, gb8 x_0.2.2] : List UInt8) 2)) (rv_assign rfl) ?_
 refine w_end ?_
 refine q_then ?_
 refine c_seq ?_
 refine c_seq ?_
 refine rg ?_
 refine st (v := (I 0)) (rv_assign rfl) ?_
 refine w_end ?_
 refine q_then ?_
 obtain ⟨o7, hj, h'⟩ := bind_some h
 clear h
 refine c_cut (fun e a w => e = .normal ∧ ∃ (ρ : Nat → Value) (σ : St) (aj1 : Option Addr) (cj2 : Nat), a = fr 30 (updL ρ [(3, (Sl aj1 o7 cj2))]) ∧ w = σ.w ∧ Hp S0 σ0 σ [Ch.own n0 n0 (Sl aj1 o7 cj2) o7]) ?_ ?_
 ·clear h'
  rename _ = some o7 => h
  refine c_blk ?_
  refine wp_loopM _ h (fun s8 a w => ∃ (ρ : Nat → Value) (σ : St) (aj1 : Option Addr) (cj2 : Nat), a = fr 30 (updL ρ [(1, (pt b1 0)), (3, (Sl aj1 s8.1 cj2)), (4, (I s8.2))]) ∧ w = σ.w ∧ Hp S0 σ0 σ [Ch.ro 0 (Sl ax_0_1 x_0.2.1 cx_0_1) x_0.2.1, Ch.bx n0 b1 0 [(I x_0.1), (Sl ax_0_1 x_0.2.1 cx_0_1), (I x_0.2.2)] [] [], Ch.own n0 n0 (Sl aj1 s8.1 cj2) s8.1]) ⟨_, σ6, (some ⟨b5, 0, none⟩), 2, fr_join ⟨rfl, rfl, rfl, trivial⟩, rfl, H.sel' [2, 1, 0] rfl rfl⟩ ?_
  clear h H
  rintro s8 a w o ⟨ρ, σ9, a10, c11, rfl, rfl, H⟩ h hres
  refine c_seq ?_
  refine c_seq ?_
  refine rg ?_
  refine st (v := (I s8.2)) (rv_move rfl) ?_
  refine st (v := (pt b1 1)) (rv_fieldAddr (off := 1) (ft := 39) Tryd.underlying41 rfl ti39 rfl rfl) ?_
  have hc12 := H.cell (u := (Sl ax_0_1 x_0.2.1 cx_0_1)) (o' := 1) 1 1 rfl rfl rfl
  refine st (v := (Sl ax_0_1 x_0.2.1 cx_0_1)) (rv_load1 Tryd.underlying39 rfl rfl hc12) ?_
  refine st (v := (I (x_0.2.1.length : Int))) (rv_len Tryd.underlying39 rfl) ?_
  refine st (v := (B (decide (s8.2 < (x_0.2.1.length : Int))))) (rv_lss (a := s8.2) (b := (x_0.2.1.length : Int)) rfl rfl) ?_
  refine w_end ?_
  refine q_then ?_
  refine cd_cond (decide (s8.2 < (x_0.2.1.length : Int))) rfl (fun hb13 => ?_) (fun hb13 => ?_)
  ·replace h := bif_t hb13 h
   refine c_skip ?_
   refine q_then ?_
   refine c_seq ?_
   refine c_blk ?_
   refine rg ?_
   refine st (v := (Sl a10 s8.1 c11)) (rv_move rfl) ?_
   refine st (v := (pt b1 1)) (rv_fieldAddr (off := 1) (ft := 39) Tryd.underlying41 rfl ti39 rfl rfl) ?_
   have hc14 := H.cell (u := (Sl ax_0_1 x_0.2.1 cx_0_1)) (o' := 1) 1 1 rfl rfl rfl
   refine st (v := (Sl ax_0_1 x_0.2.1 cx_0_1)) (rv_load1 Tryd.underlying39 rfl rfl hc14) ?_
   refine st (v := (I s8.2)) (rv_move rfl) ?_
   obtain ⟨x15, hx16, h'⟩ := bind_some h
   clear h
   have h := h'; clear h'
   obtain ⟨b18, o19, hi17, -⟩ := (H.ro 0 rfl).ix hx16
   refine st (v := (pt b18 o19)) (rv_ix Tryd.underlying39 ti3 rfl rfl hi17) ?_
   have hc20 := ((H.ro 0 rfl).at hx16 hi17).int
   refine st (v := (I x15)) (rv_load1 Tryd.underlying3 rfl rfl hc20) ?_
   refine st (v := (I (w64 (x15 + 128)))) (rv_add (a := x15) (b := 128) rfl rfl) ?_
   refine st (v := (.int .u8 ((gb8 (w64 (x15 + 128))).toNat : Int))) ((rvk_conv (k := .i64) (k' := .u8) (a := (w64 (x15 + 128))) Tryd.underlying3 Tryd.underlying5 rfl).b8) ?_
   refine st_ex (ex_buildSlice (el := n0) (xs := ([gb8 (w64 (x15 + 128))] : List UInt8)) (ps := [(0, (.int .u8 ((gb8 (w64 (x15 + 128))).toNat : Int)))]) (cs := [(.int .u8 ((gb8 (w64 (x15 + 128))).toNat : Int))]) H hn0 Tryd.underlying22 ti5 rfl rfl (by kernel_rfl) (.cons (c := [(.int .u8 ((gb8 (w64 (x15 + 128))).toNat : Int))]) rfl (.nil)) rfl) wn ?_
   rintro _ σ22 ⟨b21, rfl, H, -⟩
   obtain ⟨xs23, hx24, h'⟩ := bind_some h
   clear h
   have h := h'; clear h'
   refine st_ex (ex_append H (i := 3) rfl Tryd.underlying22 Tryd.underlying22 ti5 rfl rfl (by decide) (H.own 0 rfl).rd hx24 hn0 rfl rfl) wn ?_
   rintro _ σ27 ⟨a25, c26, rfl, H, -⟩
   refine st (v := (Sl a25 xs23 c26)) (rv_assign rfl) ?_
   refine w_end ?_
   refine q_blk ?_
   refine q_then ?_
   refine rg ?_
   refine st (v := (I s8.2)) (rv_move rfl) ?_
   refine st (v := (I (w64 (s8.2 + 1)))) (rv_add (a := s8.2) (b := 1) rfl rfl) ?_
   refine st (v := (I (w64 (s8.2 + 1)))) (rv_assign rfl) ?_
   refine w_end ?_
   refine q_then ?_
   obtain rfl := Option.some.inj h
   exact ⟨_, rfl, _, σ27, a25, c26, fr_join ⟨rfl, rfl, rfl, trivial⟩, rfl, H.sel' [2, 3, 0] rfl rfl⟩
  ·replace h := bif_f hb13 h
   refine c_exit ?_
   refine q_then_x ?_
   refine q_then_x ?_
   refine q_blk_hit ?_
   obtain rfl := Option.some.inj h
   obtain rfl := hres _ rfl
   exact ⟨rfl, _, σ9, a10, c11, fr_join ⟨rfl, trivial⟩, rfl, H.sel' [2] rfl rfl⟩
 ·clear hj
  have h := h'
  clear h' H
  rintro e a w ⟨rfl, ρ, σ28, a29, c30, rfl, rfl, H⟩
  refine q_then ?_
  refine c_seq ?_
  refine rg ?_
  refine st (v := (Sl a29 o7 c30)) (rv_move rfl) ?_
  refine st (v := (Sl a29 o7 c30)) (rv_assign rfl) ?_
  refine w_end ?_
  refine q_then ?_
  refine c_ret ?_
  obtain rfl := Option.some.inj h
  exact fin_ret (v := (Sl a29 o7 c30)) (results_ok Tryd.results23 (res_tmp (v := (Sl a29 o7 c30)) rfl res_nil) rfl) ⟨a29, c30, rfl, rfl⟩ (H.sel' [0] rfl rfl)

theorem c_spec_checkOf {b_0 : List UInt8} {ab_0 : Option Addr} {cb_0 : Nat} {r : Int} (h : M.spec_checkOf b_0 = some r) :
    Cal2 Tryd.prog 24 [(Sl ab_0 b_0 cb_0)] [Ch.ro 0 (Sl ab_0 b_0 cb_0) b_0] (fun n0 v L => v = (I r) ∧ L = []) := by
 refine cal2 (n := 21) Tryd.func24 rfl rfl rfl rfl ?_
 intro S0 σ0 n0 hn0 H
 unfold M.spec_checkOf at h
 refine c_seq ?_
 refine rg ?_
 refine st (v := (I 0)) (rv_assign rfl) ?_
 refine w_end ?_
 refine q_then ?_
 refine c_seq ?_
 refine rg ?_
 refine st (v := (I 1)) (rv_assign rfl) ?_
 refine w_end ?_
 refine q_then ?_
 refine c_seq ?_
 refine c_seq ?_
 refine rg ?_
 refine st (v := (I 0)) (rv_assign rfl) ?_
 refine w_end ?_
 refine q_then ?_
 obtain ⟨o1, hj, h'⟩ := bind_some h
 clear h
 refine c_cut (fun e a w => e = .normal ∧ ∃ (ρ : Nat → Value) (σ : St), a = fr 21 (updL ρ [(3, (I o1))]) ∧ w = σ.w ∧ Hp S0 σ0 σ []) ?_ ?_
 ·clear h'
  rename _ = some o1 => h
  refine c_blk ?_
  refine wp_loopM _ h (fun s2 a w => ∃ (ρ : Nat → Value) (σ : St), a = fr 21 (updL ρ [(0, (Sl ab_0 b_0 cb_0)), (3, (I s2.1)), (4, (I s2.2))]) ∧ w = σ.w ∧ Hp S0 σ0 σ [Ch.ro 0 (Sl ab_0 b_0 cb_0) b_0]) ⟨_, σ0, fr_join ⟨rfl, rfl, rfl, trivial⟩, rfl, H.sel' [0] rfl rfl⟩ ?_
  clear h H
  rintro s2 a w o ⟨ρ, σ3, rfl, rfl, H⟩ h hres
  refine c_seq ?_
  refine c_seq ?_
  refine rg ?_
  refine st (v := (I s2.2)) (rv_move rfl) ?_
  refine st (v := (Sl ab_0 b_0 cb_0)) (rv_move rfl) ?_
  refine st (v := (I (b_0.length : Int))) (rv_len Tryd.underlying22 rfl) ?_
  refine st (v := (B (decide (s2.2 < (b_0.length : Int))))) (rv_lss (a := s2.2) (b := (b_0.length : Int)) rfl rfl) ?_
  refine w_end ?_
  refine q_then ?_
  refine cd_cond (decide (s2.2 < (b_0.length : Int))) rfl (fun hb4 => ?_) (fun hb4 => ?_)
  ·replace h := bif_t hb4 h
   refine c_skip ?_
   refine q_then ?_
   refine c_seq ?_
   refine c_blk ?_
   refine rg ?_
   refine st (v := (I s2.1)) (rv_move rfl) ?_
   refine st (v := (I (w64 (31 * s2.1)))) (rv_mul (a := 31) (b := s2.1) rfl rfl) ?_
   refine st (v := (Sl ab_0 b_0 cb_0)) (rv_move rfl) ?_
   refine st (v := (I s2.2)) (rv_move rfl) ?_
   obtain ⟨x5, hx6, h'⟩ := bind_some h
   clear h
   have h := h'; clear h'
   obtain ⟨b8, o9, hi7, -⟩ := (H.ro 0 rfl).ix hx6
   refine st (v := (pt b8 o9)) (rv_ix Tryd.underlying22 ti5 rfl rfl hi7) ?_
   have hc10 := ((H.ro 0 rfl).at hx6 hi7).byte
   refine st (v := (.int .u8 (x5.toNat : Int))) (rv_load1 Tryd.underlying5 rfl rfl hc10) ?_
   refine st (v := (I (w64 (x5.toNat : Int)))) (rv_conv Tryd.underlying5 Tryd.underlying3 rfl) ?_
   refine st (v := (I (w64 ((w64 (31 * s2.1)) + (w64 (x5.toNat : Int)))))) (rv_add (a := (w64 (31 * s2.1))) (b := (w64 (x5.toNat : Int))) rfl rfl) ?_
   refine st (v := (I ((w64 ((w64 (31 * s2.1)) + (w64 (x5.toNat : Int)))).tmod 251))) (rv_rem (a := (w64 ((w64 (31 * s2.1)) + (w64 (x5.toNat : Int))))) (b := 251) rfl rfl (by decide)) ?_
   refine st (v := (I ((w64 ((w64 (31 * s2.1)) + (w64 (x5.toNat : Int)))).tmod 251))) (rv_assign rfl) ?_
   refine w_end ?_
   refine q_blk ?_
   refine q_then ?_
   refine rg ?_
   refine st (v := (I s2.2)) (rv_move rfl) ?_
   refine st (v := (I (w64 (s2.2 + 1)))) (rv_add (a := s2.2) (b := 1) rfl rfl) ?_
   refine st (v := (I (w64 (s2.2 + 1)))) (rv_assign rfl) ?_
   refine w_end ?_
   refine q_then ?_
   obtain rfl := Option.some.inj h
   exact ⟨_, rfl, _, σ3, fr_join ⟨rfl, rfl, rfl, trivial⟩, rfl, H.sel' [0] rfl rfl⟩
  ·replace h := bif_f hb4 h
   refine c_exit ?_
   refine q_then_x ?_
   refine q_then_x ?_
   refine q_blk_hit ?_
   obtain rfl := Option.some.inj h
   obtain rfl := hres _ rfl
   exact ⟨rfl, _, σ3, fr_join ⟨rfl, trivial⟩, rfl, H.sel' [] rfl rfl⟩
 ·clear hj
  have h := h'
  clear h' H
  rintro e a w ⟨rfl, ρ, σ11, rfl, rfl, H⟩
  refine q_then ?_
  refine c_seq ?_
  refine rg ?_
  refine st (v := (I o1)) (rv_move rfl) ?_
  refine st (v := (I o1)) (rv_assign rfl) ?_
  refine w_end ?_
  refine q_then ?_
  refine c_ret ?_
  obtain rfl := Option.some.inj h
  exact fin_ret (v := (I o1)) (results_ok Tryd.results24 (res_tmp (v := (I o1)) rfl res_nil) rfl) ⟨rfl, rfl⟩ (H.sel' [] rfl rfl)

theorem c_spec_FormatPage {list_0 : List (Int × (List Int) × Int)} {alist_0 : Option Addr} {clist_0 : Nat} {r : (List UInt8)} (h : M.spec_FormatPage list_0 = some r) :
    Cal2 Tryd.prog 9 [(Sl alist_0 list_0 clist_0)] [Ch.ro 0 (Sl alist_0 list_0 clist_0) list_0] (fun n0 v L => ∃ (az1 : Option Addr), ∃ (cz2 : Nat), v = (Sl az1 r cz2) ∧ L = [Ch.own n0 n0 (Sl az1 r cz2) r]) := by
 refine cal2 (n := 31) Tryd.func9 rfl rfl rfl rfl ?_
 intro S0 σ0 n0 hn0 H
 unfold M.spec_FormatPage at h
 refine c_seq ?_
 refine rg ?_
 refine st (v := (.slice none 0 0)) (rv_assign rfl) ?_
 refine w_end ?_
 refine q_then ?_
 refine c_seq ?_
 refine c_seq ?_
 refine rg ?_
 refine st (v := (Sl alist_0 list_0 clist_0)) (rv_move rfl) ?_
 obtain ⟨r1, hx2, h'⟩ := bind_some h
 clear h
 have h := h'; clear h'
 have hc3 := c_spec_validStore (alist_0 := alist_0) (clist_0 := clist_0) hx2
 refine st_call (cx_call hc3 (ent_f hc3.fn rfl) hn0 (show Hp S0 σ0 _ ([Ch.ro 0 (Sl alist_0 list_0 clist_0) list_0] ++ [Ch.ro 0 (Sl alist_0 list_0 clist_0) list_0]) from (H.sel' [0, 0] rfl rfl))) wn ?_
 rintro _ σ4 ⟨_, ⟨rfl, rfl⟩, H, -⟩
 replace H : Hp S0 σ0 σ4 [Ch.ro 0 (Sl alist_0 list_0 clist_0) list_0] := H
 refine st (v := (B (!r1))) (rv_not rfl) ?_
 refine w_end ?_
 refine q_then ?_
 refine cd_cond (!r1) rfl (fun hb5 => ?_) (fun hb5 => ?_)
 ·replace h := bif_t hb5 h
  refine c_seq ?_
  refine rg ?_
  refine st (v := (.slice none 0 0)) (rv_assign rfl) ?_
  refine w_end ?_
  refine q_then ?_
  refine c_ret ?_
  refine q_then_r ?_
  replace H := H.nilOwn UInt8 n0 n0
  obtain rfl := Option.some.inj h
  exact fin_ret (v := (.slice none 0 0)) (results_ok Tryd.results9 (res_tmp (v := (.slice none 0 0)) rfl res_nil) rfl) ⟨none, 0, rfl, rfl⟩ (H.sel' [0] rfl rfl)
 ·replace h := bif_f hb5 h
  refine c_skip ?_
  refine q_then ?_
  refine c_seq ?_
  refine rg ?_
  refine st (v := (Sl alist_0 list_0 clist_0)) (rv_move rfl) ?_
  refine st (v := (I (list_0.length : Int))) (rv_len Tryd.underlying23 rfl) ?_
  refine st (v := (.int .u8 ((gb8 (list_0.length : Int)).toNat : Int))) ((rvk_conv (k := .i64) (k' := .u8) (a := (list_0.length : Int)) Tryd.underlying3 Tryd.underlying5 rfl).b8) ?_
  refine st_ex (ex_buildSlice (el := n0) (xs := ([gb8 (list_0.length : Int)] : List UInt8)) (ps := [(0, (.int .u8 ((gb8 (list_0.length : Int)).toNat : Int)))]) (cs := [(.int .u8 ((gb8 (list_0.length : Int)).toNat : Int))]) H hn0 Tryd.underlying22 ti5 rfl rfl (by kernel_rfl) (.cons (c := [(.int .u8 ((gb8 (list_0.length : Int)).toNat : Int))]) rfl (.nil)) rfl) wn ?_
  rintro _ σ7 ⟨b6, rfl, H, -⟩
  refine st (v := (Sl (some ⟨b6, 0, none⟩) ([gb8 (list_0.length : Int)] : List UInt8) 1)) (rv_assign rfl) ?_
  refine w_end ?_
  refine q_then ?_
  refine c_seq ?_
  refine c_seq ?_
  refine rg ?_
  refine st (v := (I 0)) (rv_assign rfl) ?_
  refine w_end ?_
  refine q_then ?_
  obtain ⟨o8, hj, h'⟩ := bind_some h
  clear h
  refine c_cut (fun e a w => e = .normal ∧ ∃ (ρ : Nat → Value) (σ : St) (aj1 : Option Addr) (cj2 : Nat), a = fr 31 (updL ρ [(3, (Sl aj1 o8 cj2))]) ∧ w = σ.w ∧ Hp S0 σ0 σ [Ch.own n0 n0 (Sl aj1 o8 cj2) o8]) ?_ ?_
  ·clear h'
   rename _ = some o8 => h
   refine c_blk ?_
   refine wp_loopM _ h (fun s9 a w => ∃ (ρ : Nat → Value) (σ : St) (aj1 : Option Addr) (cj2 : Nat), a = fr 31 (updL ρ [(0, (Sl alist_0 list_0 clist_0)), (3, (Sl aj1 s9.1 cj2)), (4, (I s9.2))]) ∧ w = σ.w ∧ Hp S0 σ0 σ [Ch.ro 0 (Sl alist_0 list_0 clist_0) list_0, Ch.own n0 n0 (Sl aj1 s9.1 cj2) s9.1]) ⟨_, σ7, (some ⟨b6, 0, none⟩), 1, fr_join ⟨rfl, rfl, rfl, trivial⟩, rfl, H.sel' [1, 0] rfl rfl⟩ ?_
   clear h H
   rintro s9 a w o ⟨ρ, σ10, a11, c12, rfl, rfl, H⟩ h hres
   refine c_seq ?_
   refine c_seq ?_
   refine rg ?_
   refine st (v := (I s9.2)) (rv_move rfl) ?_
   refine st (v := (Sl alist_0 list_0 clist_0)) (rv_move rfl) ?_
   refine st (v := (I (list_0.length : Int))) (rv_len Tryd.underlying23 rfl) ?_
   refine st (v := (B (decide (s9.2 < (list_0.length : Int))))) (rv_lss (a := s9.2) (b := (list_0.length : Int)) rfl rfl) ?_
   refine w_end ?_
   refine q_then ?_
   refine cd_cond (decide (s9.2 < (list_0.length : Int))) rfl (fun hb13 => ?_) (fun hb13 => ?_)
   ·replace h := bif_t hb13 h
    refine c_skip ?_
    refine q_then ?_
    refine c_seq ?_
    refine c_blk ?_
    refine rg ?_
    refine st (v := (Sl a11 s9.1 c12)) (rv_move rfl) ?_
    refine st (v := (Sl alist_0 list_0 clist_0)) (rv_move rfl) ?_
    refine st (v := (I s9.2)) (rv_move rfl) ?_
    obtain ⟨x14, hx15, h'⟩ := bind_some h
    clear h
    have h := h'; clear h'
    obtain ⟨b17, o18, hi16, -⟩ := (H.ro 0 rfl).ix hx15
    refine st (v := (pt b17 o18)) (rv_ix Tryd.underlying23 ti41 rfl rfl hi16) ?_
    obtain ⟨_, ⟨_, _, rfl, rfl, ⟨_, _, rfl, ⟨_, rfl, hR23⟩, rfl⟩⟩, hl19, hc20⟩ := ((H.ro 0 rfl).at hx15 hi16).cells
    obtain ⟨a21, c22, rfl⟩ := hR23.isSl
    replace H := H.add (d := Ch.ro 0 (Sl a21 x14.2.1 c22) x14.2.1) hR23 (fun _ h => h)
    clear hR23
    refine st (v := (.agg #[(I x14.1), (Sl a21 x14.2.1 c22), (I x14.2.2)])) (rv_load Tryd.underlying41 rfl ti41 rfl hl19 hc20) ?_
    obtain ⟨r24, hx25, h'⟩ := bind_some h
    clear h
    have h := h'; clear h'
    have hc26 := c_spec_itemBytes (ax_0_1 := a21) (cx_0_1 := c22) hx25
    refine st_call (cx_call hc26 (ent_f hc26.fn rfl) hn0 (show Hp S0 σ0 _ ([Ch.ro 0 (Sl a21 x14.2.1 c22) x14.2.1] ++ [Ch.ro 0 (Sl a21 x14.2.1 c22) x14.2.1, Ch.ro 0 (Sl alist_0 list_0 clist_0) list_0, Ch.own n0 n0 (Sl a11 s9.1 c12) s9.1]) from (H.sel' [0, 0, 1, 2] rfl rfl))) wn ?_
    rintro _ σ29 ⟨_, ⟨a27, c28, rfl, rfl⟩, H, -⟩
    replace H : Hp S0 σ0 σ29 [Ch.own n0 n0 (Sl a27 r24 c28) r24, Ch.ro 0 (Sl a21 x14.2.1 c22) x14.2.1, Ch.ro 0 (Sl alist_0 list_0 clist_0) list_0, Ch.own n0 n0 (Sl a11 s9.1 c12) s9.1] := H
    obtain ⟨xs30, hx31, h'⟩ := bind_some h
    clear h
    have h := h'; clear h'
    refine st_ex (ex_append H (i := 3) rfl Tryd.underlying22 Tryd.underlying22 ti5 rfl rfl (by decide) (H.own 0 rfl).rd hx31 hn0 rfl rfl) wn ?_
    rintro _ σ34 ⟨a32, c33, rfl, H, -⟩
    refine st (v := (Sl a32 xs30 c33)) (rv_assign rfl) ?_
    refine w_end ?_
    refine q_blk ?_
    refine q_then ?_
    refine rg ?_
    refine st (v := (I s9.2)) (rv_move rfl) ?_
    refine st (v := (I (w64 (s9.2 + 1)))) (rv_add (a := s9.2) (b := 1) rfl rfl) ?_
    refine st (v := (I (w64 (s9.2 + 1)))) (rv_assign rfl) ?_
    refine w_end ?_
    refine q_then ?_
    obtain rfl := Option.some.inj h
    exact ⟨_, rfl, _, σ34, a32, c33, fr_join ⟨rfl, rfl, rfl, trivial⟩, rfl, H.sel' [3, 0] rfl rfl⟩
   ·replace h := bif_f hb13 h
    refine c_exit ?_
    refine q_then_x ?_
    refine q_then_x ?_
    refine q_blk_hit ?_
    obtain rfl := Option.some.inj h
    obtain rfl := hres _ rfl
    exact ⟨rfl, _, σ10, a11, c12, fr_join ⟨rfl, trivial⟩, rfl, H.sel' [1] rfl rfl⟩
  ·clear hj
   have h := h'
   clear h' H
   rintro e a w ⟨rfl, ρ, σ35, a36, c37, rfl, rfl, H⟩
   refine q_then ?_
   refine c_seq ?_
   refine rg ?_
   refine st (v := (Sl a36 o8 c37)) (rv_move rfl) ?_
   refine st (v := (Sl a36 o8 c37)) (rv_move rfl) ?_
   obtain ⟨r38, hx39, h'⟩ := bind_some h
   clear h
   have h := h'; clear h'
   have hc40 := c_spec_checkOf (ab_0 := a36) (cb_0 := c37) hx39
   have hle := Nat.le_trans hn0 H.size
   refine st_call (cx_lend (Loan.lend Loan.nil) hc40 (ent_f hc40.fn rfl) (show Hp S0 σ0 _ ([Ch.own n0 n0 (Sl a36 o8 c37) o8] ++ ([] ++ [])) from (H.sel' [0] rfl rfl)) (by rintro _ _ _ ⟨rfl, rfl⟩; exact trivial)) wn ?_
   rintro _ σ41 ⟨_, ⟨rfl, rfl⟩, H, -, -⟩
   replace H : Hp S0 σ0 σ41 [Ch.own n0 n0 (Sl a36 o8 c37) o8] := H
   clear hle
   replace H : Hp S0 σ0 σ41 [Ch.own n0 n0 (Sl a36 o8 c37) o8] := H
   refine st (v := (.int .u8 ((gb8 r38).toNat : Int))) ((rvk_conv (k := .i64) (k' := .u8) (a := r38) Tryd.underlying3 Tryd.underlying5 rfl).b8) ?_
   refine st_ex (ex_buildSlice (el := n0) (xs := ([gb8 r38] : List UInt8)) (ps := [(0, (.int .u8 ((gb8 r38).toNat : Int)))]) (cs := [(.int .u8 ((gb8 r38).toNat : Int))]) H hn0 Tryd.underlying22 ti5 rfl rfl (by kernel_rfl) (.cons (c := [(.int .u8 ((gb8 r38).toNat : Int))]) rfl (.nil)) rfl) wn ?_
   rintro _ σ43 ⟨b42, rfl, H, -⟩
   obtain ⟨xs44, hx45, h'⟩ := bind_some h
   clear h
   have h := h'; clear h'
   refine st_ex (ex_append H (i := 1) rfl Tryd.underlying22 Tryd.underlying22 ti5 rfl rfl (by decide) (H.own 0 rfl).rd hx45 hn0 rfl rfl) wn ?_
   rintro _ σ48 ⟨a46, c47, rfl, H, -⟩
   refine st (v := (Sl a46 xs44 c47)) (rv_assign rfl) ?_
   refine w_end ?_
   refine q_then ?_
   refine c_ret ?_
   obtain rfl := Option.some.inj h
   exact fin_ret (v := (Sl a46 xs44 c47)) (results_ok Tryd.results9 (res_tmp (v := (Sl a46 xs44 c47)) rfl res_nil) rfl) ⟨a46, c47, rfl, rfl⟩ (H.sel' [0] rfl rfl)

theorem c_impl_pageReader_fail {r_0 : (List UInt8) × Int × Int} {err_1 : Int} {ar_0_0 : Option Addr} {cr_0_0 : Nat} {lor_0 br_0 or_0 : Nat} {prer_0 sufr_0 : List Value} {ga : Nat → Addr} {r : ((List UInt8) × Int × Int)} (h : M.impl_pageReader_fail r_0 err_1 = some r) :
    Cal2 Tryd.prog 38 [(pt br_0 or_0), (er 72 ga err_1)] [Ch.bx lor_0 br_0 or_0 [(Sl ar_0_0 r_0.1 cr_0_0), (I r_0.2.1), (er 72 ga r_0.2.2)] prer_0 sufr_0, Ch.ro 0 (Sl ar_0_0 r_0.1 cr_0_0) r_0.1, Ch.gl 72 ga [1, 2, 0]] (fun n0 v L => ∃ (az1 : Option Addr), ∃ (cz2 : Nat), v = (.tuple #[]) ∧ L = [Ch.bx lor_0 br_0 or_0 [(Sl az1 r.1 cz2), (I r.2.1), (er 72 ga r.2.2)] prer_0 sufr_0, Ch.ro 0 (Sl az1 r.1 cz2) r.1]) := by
 refine cal2 (n := 13) Tryd.func38 rfl rfl rfl rfl ?_
 intro S0 σ0 n0 hn0 H
 unfold M.impl_pageReader_fail at h
 refine c_seq ?_
 refine rg ?_
 refine st (v := (pt br_0 or_0)) (rv_move rfl) ?_
 refine st (v := (pt br_0 or_0)) (rv_nilCheck rfl) ?_
 refine st (v := (pt br_0 (or_0 + 2))) (rv_fieldAddr (off := 2) (ft := 44) Tryd.underlying46 rfl ti44 rfl rfl) ?_
 have hc1 := H.cell (u := (er 72 ga r_0.2.2)) (o' := (or_0 + 2)) 0 2 rfl rfl rfl
 refine st (v := (er 72 ga r_0.2.2)) (rv_load1 Tryd.underlying44 rfl rfl hc1) ?_
 refine st (v := (B (r_0.2.2 == 0))) (rv_eqlE (e := r_0.2.2) Tryd.underlying44 rfl rfl) ?_
 refine w_end ?_
 refine q_then ?_
 refine cd_cond (r_0.2.2 == 0) rfl (fun hb2 => ?_) (fun hb2 => ?_)
 ·replace h := bif_t hb2 h
  refine rg ?_
  refine st (v := (pt br_0 or_0)) (rv_move rfl) ?_
  refine st (v := (er 72 ga err_1)) (rv_move rfl) ?_
  refine st (v := (pt br_0 or_0)) (rv_nilCheck rfl) ?_
  refine st (v := (pt br_0 (or_0 + 2))) (rv_fieldAddr (off := 2) (ft := 44) Tryd.underlying46 rfl ti44 rfl rfl) ?_
  refine st_exS (ex_store_box (k := 2) (cs := [(Sl ar_0_0 r_0.1 cr_0_0), (I r_0.2.1), (er 72 ga r_0.2.2)]) (vs := [(er 72 ga err_1)]) (cs' := [(Sl ar_0_0 r_0.1 cr_0_0), (I r_0.2.1), (er 72 ga err_1)]) H (i := 0) rfl ti44 rfl rfl rfl er_cells rfl (Nat.le_of_ble_eq_true rfl) (by intro u hu; obtain rfl := List.mem_singleton.1 hu; exact er_plain) rfl) wn ?_
  rintro σ3 ⟨H, -⟩
  refine w_end ?_
  obtain rfl := Option.some.inj h
  exact fin_end (v := (.tuple #[])) (results_ok Tryd.results38 res_nil rfl) ⟨ar_0_0, cr_0_0, rfl, rfl⟩ (H.sel' [0, 1] rfl rfl)
 ·replace h := bif_f hb2 h
  refine c_skip ?_
  obtain rfl := Option.some.inj h
  exact fin_end (v := (.tuple #[])) (results_ok Tryd.results38 res_nil rfl) ⟨ar_0_0, cr_0_0, rfl, rfl⟩ (H.sel' [0, 1] rfl rfl)

theorem c_impl_pageReader_next {r_0 : (List UInt8) × Int × Int} {ar_0_0 : Option Addr} {cr_0_0 : Nat} {lor_0 br_0 or_0 : Nat} {prer_0 sufr_0 : List Value} {ga : Nat → Addr} {r : Int × ((List UInt8) × Int × Int)} (h : M.impl_pageReader_next r_0 = some r) :
    Cal2 Tryd.prog 36 [(pt br_0 or_0)] [Ch.bx lor_0 br_0 or_0 [(Sl ar_0_0 r_0.1 cr_0_0), (I r_0.2.1), (er 72 ga r_0.2.2)] prer_0 sufr_0, Ch.ro 0 (Sl ar_0_0 r_0.1 cr_0_0) r_0.1, Ch.gl 72 ga [1, 2, 0]] (fun n0 v L => ∃ (az1 : Option Addr), ∃ (cz2 : Nat), v = (I r.1) ∧ L = [Ch.bx lor_0 br_0 or_0 [(Sl az1 r.2.1 cz2), (I r.2.2.1), (er 72 ga r.2.2.2)] prer_0 sufr_0, Ch.ro 0 (Sl az1 r.2.1 cz2) r.2.1]) := by
 refine cal2 (n := 40) Tryd.func36 rfl rfl rfl rfl ?_
 intro S0 σ0 n0 hn0 H
 unfold M.impl_pageReader_next at h
 refine c_seq ?_
 refine rg ?_
 refine st (v := (I 0)) (rv_assign rfl) ?_
 refine w_end ?_
 refine q_then ?_
 refine c_seq ?_
 refine c_seq ?_
 refine rgP (σ := σ0) 9 (by kernel_rfl) (by kernel_rfl) (by kernel_rfl) ?_
 refine sq (v := (pt br_0 or_0)) (rv_move rfl) ?_
 refine sq (v := (pt br_0 or_0)) (rv_nilCheck rfl) ?_
 refine sq (v := (pt br_0 (or_0 + 1))) (rv_fieldAddr (off := 1) (ft := 3) Tryd.underlying46 rfl ti3 rfl rfl) ?_
 have hc1 := H.cell (u := (I r_0.2.1)) (o' := (or_0 + 1)) 0 1 rfl rfl rfl
 refine sq (v := (I r_0.2.1)) (rv_load1 Tryd.underlying3 rfl rfl hc1) ?_
 refine sq (v := (pt br_0 or_0)) (rv_move rfl) ?_
 refine sq (v := (pt br_0 or_0)) (rv_nilCheck rfl) ?_
 refine sq (v := (pt br_0 or_0)) (rv_fieldAddr (off := 0) (ft := 22) Tryd.underlying46 rfl ti22 rfl rfl) ?_
 have hc2 := H.cell (u := (Sl ar_0_0 r_0.1 cr_0_0)) (o' := or_0) 0 0 rfl rfl rfl
 refine sq (v := (Sl ar_0_0 r_0.1 cr_0_0)) (rv_load1 Tryd.underlying22 rfl rfl hc2) ?_
 refine sq (v := (I (r_0.1.length : Int))) (rv_len Tryd.underlying22 rfl) ?_
 refine sq_end ?_
 intro σ3 hm4
 replace H := H.grow (hm4.mono fun _ h => h); clear hm4
 refine st (v := (B (r_0.2.1 == (r_0.1.length : Int)))) (rv_eql (a := r_0.2.1) (b := (r_0.1.length : Int)) rfl rfl) ?_
 refine w_end ?_
 refine q_then ?_
 obtain ⟨o5, hj, h'⟩ := bind_some h
 clear h
 refine c_cut (fun e a w => e = .normal ∧ ∃ (ρ : Nat → Value) (σ : St) (aj1 : Option Addr) (cj2 : Nat), a = fr 40 (updL ρ [(0, (pt br_0 or_0))]) ∧ w = σ.w ∧ Hp S0 σ0 σ [Ch.bx lor_0 br_0 or_0 [(Sl aj1 o5.1 cj2), (I o5.2.1), (er 72 ga o5.2.2)] prer_0 sufr_0, Ch.ro 0 (Sl aj1 o5.1 cj2) o5.1, Ch.gl 72 ga [1, 2, 0]]) ?_ ?_
 ·clear h'
  rename _ = some o5 => h
  refine cd_cond (r_0.2.1 == (r_0.1.length : Int)) rfl (fun hb6 => ?_) (fun hb6 => ?_)
  ·replace h := bif_t hb6 h
   refine rg ?_
   refine st (v := (pt br_0 or_0)) (rv_move rfl) ?_
   have hc7 := gl_cell (H.gl 2 rfl) 1 2 2 rfl rfl
   refine st (v := (er 72 ga 2)) (rv_loadG Tryd.underlying44 hc7) ?_
   obtain ⟨r8, hx9, h'⟩ := bind_some h
   clear h
   have h := h'; clear h'
   have hc10 := c_impl_pageReader_fail (lor_0 := lor_0) (br_0 := br_0) (or_0 := or_0) (prer_0 := prer_0) (sufr_0 := sufr_0) (ar_0_0 := ar_0_0) (cr_0_0 := cr_0_0) (ga := ga) hx9
   refine st_call (cx_call hc10 (ent_f hc10.fn rfl) hn0 (show Hp S0 σ0 _ ([Ch.bx lor_0 br_0 or_0 [(Sl ar_0_0 r_0.1 cr_0_0), (I r_0.2.1), (er 72 ga r_0.2.2)] prer_0 sufr_0, Ch.ro 0 (Sl ar_0_0 r_0.1 cr_0_0) r_0.1, Ch.gl 72 ga [1, 2, 0]] ++ [Ch.ro 0 (Sl ar_0_0 r_0.1 cr_0_0) r_0.1, Ch.gl 72 ga [1, 2, 0]]) from (H.sel' [0, 1, 2, 1, 2] rfl rfl))) wn ?_
   rintro _ σ13 ⟨_, ⟨a11, c12, rfl, rfl⟩, H, -⟩
   replace H : Hp S0 σ0 σ13 [Ch.bx lor_0 br_0 or_0 [(Sl a11 r8.1 c12), (I r8.2.1), (er 72 ga r8.2.2)] prer_0 sufr_0, Ch.ro 0 (Sl a11 r8.1 c12) r8.1, Ch.ro 0 (Sl ar_0_0 r_0.1 cr_0_0) r_0.1, Ch.gl 72 ga [1, 2, 0]] := H
   refine w_end ?_
   obtain rfl := Option.some.inj h
   exact ⟨rfl, _, σ13, a11, c12, fr_join ⟨rfl, trivial⟩, rfl, H.sel' [0, 1, 3] rfl rfl⟩
  ·replace h := bif_f hb6 h
   refine c_skip ?_
   obtain rfl := Option.some.inj h
   exact ⟨rfl, _, σ3, ar_0_0, cr_0_0, fr_join ⟨rfl, trivial⟩, rfl, H.sel' [0, 1, 2] rfl rfl⟩
 ·clear hj
  have h := h'
  clear h' H
  rintro e a w ⟨rfl, ρ, σ14, a15, c16, rfl, rfl, H⟩
  refine q_then ?_
  refine c_seq ?_
  refine c_seq ?_
  refine rg ?_
  refine st (v := (pt br_0 or_0)) (rv_move rfl) ?_
  refine st (v := (pt br_0 or_0)) (rv_nilCheck rfl) ?_
  refine st (v := (pt br_0 (or_0 + 2))) (rv_fieldAddr (off := 2) (ft := 44) Tryd.underlying46 rfl ti44 rfl rfl) ?_
  have hc17 := H.cell (u := (er 72 ga o5.2.2)) (o' := (or_0 + 2)) 0 2 rfl rfl rfl
  refine st (v := (er 72 ga o5.2.2)) (rv_load1 Tryd.underlying44 rfl rfl hc17) ?_
  refine st (v := (B (o5.2.2 != 0))) (rv_neqE (e := o5.2.2) Tryd.underlying44 rfl rfl) ?_
  refine w_end ?_
  refine q_then ?_
  refine cd_cond (o5.2.2 != 0) rfl (fun hb18 => ?_) (fun hb18 => ?_)
  ·replace h := bif_t hb18 h
   refine c_seq ?_
   refine rg ?_
   refine st (v := (I 0)) (rv_assign rfl) ?_
   refine w_end ?_
   refine q_then ?_
   refine c_ret ?_
   refine q_then_r ?_
   obtain rfl := Option.some.inj h
   exact fin_ret (v := (I 0)) (results_ok Tryd.results36 (res_tmp (v := (I 0)) rfl res_nil) rfl) ⟨a15, c16, rfl, rfl⟩ (H.sel' [0, 1] rfl rfl)
  ·replace h := bif_f hb18 h
   refine c_skip ?_
   refine q_then ?_
   refine c_seq ?_
   refine rg ?_
   refine st (v := (pt br_0 or_0)) (rv_move rfl) ?_
   refine st (v := (pt br_0 or_0)) (rv_nilCheck rfl) ?_
   refine st (v := (pt br_0 (or_0 + 1))) (rv_fieldAddr (off := 1) (ft := 3) Tryd.underlying46 rfl ti3 rfl rfl) ?_
   have hc19 := H.cell (u := (I o5.2.1)) (o' := (or_0 + 1)) 0 1 rfl rfl rfl
   refine st (v := (I o5.2.1)) (rv_load1 Tryd.underlying3 rfl rfl hc19) ?_
   refine st (v := (I (w64 (o5.2.1 + 1)))) (rv_add (a := o5.2.1) (b := 1) rfl rfl) ?_
   refine st (v := (pt br_0 or_0)) (rv_nilCheck rfl) ?_
   refine st (v := (pt br_0 (or_0 + 1))) (rv_fieldAddr (off := 1) (ft := 3) Tryd.underlying46 rfl ti3 rfl rfl) ?_
   refine st_exS (ex_store_box (k := 1) (cs := [(Sl a15 o5.1 c16), (I o5.2.1), (er 72 ga o5.2.2)]) (vs := [(I (w64 (o5.2.1 + 1)))]) (cs' := [(Sl a15 o5.1 c16), (I (w64 (o5.2.1 + 1))), (er 72 ga o5.2.2)]) H (i := 0) rfl ti3 rfl rfl rfl rfl rfl (Nat.le_of_ble_eq_true rfl) (by simp [plain]) rfl) wn ?_
   rintro σ20 ⟨H, -⟩
   refine w_end ?_
   refine q_then ?_
   refine c_seq ?_
   refine rgP (σ := σ20) 9 (by kernel_rfl) (by kernel_rfl) (by kernel_rfl) ?_
   refine sq (v := (pt br_0 or_0)) (rv_move rfl) ?_
   refine sq (v := (pt br_0 or_0)) (rv_nilCheck rfl) ?_
   refine sq (v := (pt br_0 or_0)) (rv_fieldAddr (off := 0) (ft := 22) Tryd.underlying46 rfl ti22 rfl rfl) ?_
   have hc21 := H.cell (u := (Sl a15 o5.1 c16)) (o' := or_0) 0 0 rfl rfl rfl
   refine sq (v := (Sl a15 o5.1 c16)) (rv_load1 Tryd.underlying22 rfl rfl hc21) ?_
   refine sq (v := (pt br_0 or_0)) (rv_move rfl) ?_
   refine sq (v := (pt br_0 or_0)) (rv_nilCheck rfl) ?_
   refine sq (v := (pt br_0 (or_0 + 1))) (rv_fieldAddr (off := 1) (ft := 3) Tryd.underlying46 rfl ti3 rfl rfl) ?_
   have hc22 := H.cell (u := (I (w64 (o5.2.1 + 1)))) (o' := (or_0 + 1)) 0 1 rfl rfl rfl
   refine sq (v := (I (w64 (o5.2.1 + 1)))) (rv_load1 Tryd.underlying3 rfl rfl hc22) ?_
   refine sq (v := (I (w64 ((w64 (o5.2.1 + 1)) - 1)))) (rv_sub (a := (w64 (o5.2.1 + 1))) (b := 1) rfl rfl) ?_
   refine sq_end ?_
   intro σ23 hm24
   replace H := H.grow (hm24.mono fun _ h => h); clear hm24
   obtain ⟨x25, hx26, h'⟩ := bind_some h
   clear h
   have h := h'; clear h'
   obtain ⟨b28, o29, hi27, -⟩ := (H.ro 1 rfl).ix hx26
   refine st (v := (pt b28 o29)) (rv_ix Tryd.underlying22 ti5 rfl rfl hi27) ?_
   have hc30 := ((H.ro 1 rfl).at hx26 hi27).byte
   refine st (v := (.int .u8 (x25.toNat : Int))) (rv_load1 Tryd.underlying5 rfl rfl hc30) ?_
   refine st (v := (I (w64 (x25.toNat : Int)))) (rv_conv Tryd.underlying5 Tryd.underlying3 rfl) ?_
   refine st (v := (I (w64 (x25.toNat : Int)))) (rv_assign rfl) ?_
   refine w_end ?_
   refine q_then ?_
   refine c_ret ?_
   obtain rfl := Option.some.inj h
   exact fin_ret (v := (I (w64 (x25.toNat : Int)))) (results_ok Tryd.results36 (res_tmp (v := (I (w64 (x25.toNat : Int)))) rfl res_nil) rfl) ⟨a15, c16, rfl, rfl⟩ (H.sel' [0, 1] rfl rfl)

end Go.Vs
