/- The functions compute what their models say. -/
import Derived.Test.YtdjjikmfkejdiacKProbeCostC3
set_option linter.unusedVariables false
set_option linter.unusedSimpArgs false
set_option maxRecDepth 20000
namespace Go.Vs
open Go Go.Proofs
attribute [local irreducible] Code.wp Code.wpIn wpList wpListIn wpQuiet Calls CallsIn

theorem c_spec_someItem {r_0 : (List UInt8) × Int} {ar_0_0 : Option Addr} {cr_0_0 : Nat} {lor_0 br_0 or_0 : Nat} {prer_0 sufr_0 : List Value} {r : (Int × (List Int) × Int) × ((List UInt8) × Int)} (h : M.spec_someItem r_0 = some r) :
    Cal2 Try.prog 114 [(pt br_0 or_0)] [Ch.bx lor_0 br_0 or_0 [(Sl ar_0_0 r_0.1 cr_0_0), (I r_0.2)] prer_0 sufr_0, Ch.ro 0 (Sl ar_0_0 r_0.1 cr_0_0) r_0.1] (fun n0 v L => ∃ (az1 : Option Addr), ∃ (cz2 : Nat), ∃ (az3 : Option Addr), ∃ (cz4 : Nat), v = (.agg #[(I r.1.1), (Sl az1 r.1.2.1 cz2), (I r.1.2.2)]) ∧ L = [Ch.own n0 n0 (Sl az1 r.1.2.1 cz2) r.1.2.1, Ch.bx lor_0 br_0 or_0 [(Sl az3 r.2.1 cz4), (I r.2.2)] prer_0 sufr_0, Ch.ro 0 (Sl az3 r.2.1 cz4) r.2.1]) := by
 refine cal2 (n := 11) Try.func114 rfl rfl rfl rfl ?_
 intro S0 σ0 n0 hn0 H
 unfold M.spec_someItem at h
 refine c_seq ?_
 refine rg ?_
 refine st_ex (ex_alloc (cs := [(I 0), (.slice none 0 0), (I 0)]) H hn0 ti31 rfl) wn ?_
 rintro _ σ2 ⟨b1, rfl, H, -⟩
 refine w_end ?_
 refine q_then ?_
 refine c_seq ?_
 refine rg ?_
 refine st (v := (pt br_0 or_0)) (rv_move rfl) ?_
 obtain ⟨r3, hx4, h'⟩ := bind_some h
 clear h
 have h := h'; clear h'
 have hc5 := c_spec_reader_pick (lor_0 := lor_0) (br_0 := br_0) (or_0 := or_0) (prer_0 := prer_0) (sufr_0 := sufr_0) (ar_0_0 := ar_0_0) (cr_0_0 := cr_0_0) hx4
 refine st_call (cx_call hc5 (ent_f hc5.fn rfl) hn0 (show Hp S0 σ0 _ ([Ch.bx lor_0 br_0 or_0 [(Sl ar_0_0 r_0.1 cr_0_0), (I r_0.2)] prer_0 sufr_0, Ch.ro 0 (Sl ar_0_0 r_0.1 cr_0_0) r_0.1] ++ [Ch.bx n0 b1 0 [(I 0), (.slice none 0 0), (I 0)] [] [], Ch.ro 0 (Sl ar_0_0 r_0.1 cr_0_0) r_0.1]) from (H.sel' [1, 2, 0, 2] rfl rfl))) wn ?_
 rintro _ σ8 ⟨_, ⟨a6, c7, rfl, rfl⟩, H, -⟩
 replace H : Hp S0 σ0 σ8 [Ch.bx lor_0 br_0 or_0 [(Sl a6 r3.2.1 c7), (I r3.2.2)] prer_0 sufr_0, Ch.ro 0 (Sl a6 r3.2.1 c7) r3.2.1, Ch.bx n0 b1 0 [(I 0), (.slice none 0 0), (I 0)] [] [], Ch.ro 0 (Sl ar_0_0 r_0.1 cr_0_0) r_0.1] := H
 refine st (v := (I (w64 (1 + r3.1)))) (rv_add (a := 1) (b := r3.1) rfl rfl) ?_
 refine st (v := (pt br_0 or_0)) (rv_move rfl) ?_
 obtain ⟨r9, hx10, h'⟩ := bind_some h
 clear h
 have h := h'; clear h'
 have hc11 := c_spec_someVector (lor_0 := lor_0) (br_0 := br_0) (or_0 := or_0) (prer_0 := prer_0) (sufr_0 := sufr_0) (ar_0_0 := a6) (cr_0_0 := c7) hx10
 refine st_call (cx_call hc11 (ent_f hc11.fn rfl) hn0 (show Hp S0 σ0 _ ([Ch.bx lor_0 br_0 or_0 [(Sl a6 r3.2.1 c7), (I r3.2.2)] prer_0 sufr_0, Ch.ro 0 (Sl a6 r3.2.1 c7) r3.2.1] ++ [Ch.ro 0 (Sl a6 r3.2.1 c7) r3.2.1, Ch.bx n0 b1 0 [(I 0), (.slice none 0 0), (I 0)] [] [], Ch.ro 0 (Sl ar_0_0 r_0.1 cr_0_0) r_0.1]) from (H.sel' [0, 1, 1, 2, 3] rfl rfl))) wn ?_
 rintro _ σ16 ⟨_, ⟨a12, c13, a14, c15, rfl, rfl⟩, H, -⟩
 replace H : Hp S0 σ0 σ16 [Ch.own n0 n0 (Sl a12 r9.1 c13) r9.1, Ch.bx lor_0 br_0 or_0 [(Sl a14 r9.2.1 c15), (I r9.2.2)] prer_0 sufr_0, Ch.ro 0 (Sl a14 r9.2.1 c15) r9.2.1, Ch.ro 0 (Sl a6 r3.2.1 c7) r3.2.1, Ch.bx n0 b1 0 [(I 0), (.slice none 0 0), (I 0)] [] [], Ch.ro 0 (Sl ar_0_0 r_0.1 cr_0_0) r_0.1] := H
 refine st (v := (pt br_0 or_0)) (rv_move rfl) ?_
 obtain ⟨r17, hx18, h'⟩ := bind_some h
 clear h
 have h := h'; clear h'
 have hc19 := c_spec_reader_pick (lor_0 := lor_0) (br_0 := br_0) (or_0 := or_0) (prer_0 := prer_0) (sufr_0 := sufr_0) (ar_0_0 := a14) (cr_0_0 := c15) hx18
 refine st_call (cx_call hc19 (ent_f hc19.fn rfl) hn0 (show Hp S0 σ0 _ ([Ch.bx lor_0 br_0 or_0 [(Sl a14 r9.2.1 c15), (I r9.2.2)] prer_0 sufr_0, Ch.ro 0 (Sl a14 r9.2.1 c15) r9.2.1] ++ [Ch.own n0 n0 (Sl a12 r9.1 c13) r9.1, Ch.ro 0 (Sl a14 r9.2.1 c15) r9.2.1, Ch.ro 0 (Sl a6 r3.2.1 c7) r3.2.1, Ch.bx n0 b1 0 [(I 0), (.slice none 0 0), (I 0)] [] [], Ch.ro 0 (Sl ar_0_0 r_0.1 cr_0_0) r_0.1]) from (H.sel' [1, 2, 0, 2, 3, 4, 5] rfl rfl))) wn ?_
 rintro _ σ22 ⟨_, ⟨a20, c21, rfl, rfl⟩, H, -⟩
 replace H : Hp S0 σ0 σ22 [Ch.bx lor_0 br_0 or_0 [(Sl a20 r17.2.1 c21), (I r17.2.2)] prer_0 sufr_0, Ch.ro 0 (Sl a20 r17.2.1 c21) r17.2.1, Ch.own n0 n0 (Sl a12 r9.1 c13) r9.1, Ch.ro 0 (Sl a14 r9.2.1 c15) r9.2.1, Ch.ro 0 (Sl a6 r3.2.1 c7) r3.2.1, Ch.bx n0 b1 0 [(I 0), (.slice none 0 0), (I 0)] [] [], Ch.ro 0 (Sl ar_0_0 r_0.1 cr_0_0) r_0.1] := H
 refine st (v := (.agg #[(I (w64 (1 + r3.1))), (Sl a12 r9.1 c13), (I r17.1)])) (rv_build (ps := [(0, (I (w64 (1 + r3.1)))), (1, (Sl a12 r9.1 c13)), (2, (I r17.1))]) Try.underlying31 ti31 (bp31 Try.underlying31) rfl (by kernel_rfl)) ?_
 refine st_exS (ex_store_box (k := 0) (cs := [(I 0), (.slice none 0 0), (I 0)]) (vs := [(I (w64 (1 + r3.1))), (Sl a12 r9.1 c13), (I r17.1)]) (cs' := [(I (w64 (1 + r3.1))), (Sl a12 r9.1 c13), (I r17.1)]) H (i := 5) rfl ti31 rfl rfl rfl rfl rfl (Nat.le_of_ble_eq_true rfl) (by simp [plain]) rfl) wn ?_
 rintro σ23 ⟨H, -⟩
 refine w_end ?_
 refine q_then ?_
 refine c_ret ?_
 obtain rfl := Option.some.inj h
 exact fin_ret (v := (.agg #[(I (w64 (1 + r3.1))), (Sl a12 r9.1 c13), (I r17.1)])) (results_ok Try.results114 (res_cell rfl (run_cellRes (cs := [(I (w64 (1 + r3.1))), (Sl a12 r9.1 c13), (I r17.1)]) Try.underlying31 rfl ti31 rfl (H.cells 0 rfl)) res_nil) rfl) ⟨a12, c13, a20, c21, rfl, rfl⟩ (H.sel' [3, 1, 2] rfl rfl)

theorem c_spec_someStore {r_0 : (List UInt8) × Int} {ar_0_0 : Option Addr} {cr_0_0 : Nat} {lor_0 br_0 or_0 : Nat} {prer_0 sufr_0 : List Value} {r : (List (Int × (List Int) × Int)) × ((List UInt8) × Int)} (h : M.spec_someStore r_0 = some r) :
    Cal2 Try.prog 95 [(pt br_0 or_0)] [Ch.bx lor_0 br_0 or_0 [(Sl ar_0_0 r_0.1 cr_0_0), (I r_0.2)] prer_0 sufr_0, Ch.ro 0 (Sl ar_0_0 r_0.1 cr_0_0) r_0.1] (fun n0 v L => ∃ (az1 : Option Addr), ∃ (cz2 : Nat), ∃ (az3 : Option Addr), ∃ (cz4 : Nat), v = (Sl az1 r.1 cz2) ∧ L = [Ch.own n0 n0 (Sl az1 r.1 cz2) r.1, Ch.bx lor_0 br_0 or_0 [(Sl az3 r.2.1 cz4), (I r.2.2)] prer_0 sufr_0, Ch.ro 0 (Sl az3 r.2.1 cz4) r.2.1]) := by
 refine cal2 (n := 25) Try.func95 rfl rfl rfl rfl ?_
 intro S0 σ0 n0 hn0 H
 unfold M.spec_someStore at h
 refine c_seq ?_
 refine rg ?_
 refine st (v := (.slice none 0 0)) (rv_assign rfl) ?_
 refine w_end ?_
 refine q_then ?_
 refine c_seq ?_
 refine rg ?_
 refine st_ex (ex_buildSlice (el := n0) (xs := ([] : List (Int × (List Int) × Int))) (ps := []) (cs := []) H hn0 Try.underlying24 ti31 rfl rfl (by kernel_rfl) (.nil) rfl) wn ?_
 rintro _ σ2 ⟨b1, rfl, H, -⟩
 refine st (v := (Sl (some ⟨b1, 0, none⟩) ([] : List (Int × (List Int) × Int)) 0)) (rv_assign rfl) ?_
 refine w_end ?_
 refine q_then ?_
 refine c_seq ?_
 refine c_seq ?_
 refine rg ?_
 refine st (v := (pt br_0 or_0)) (rv_move rfl) ?_
 refine st_ex (ex_buildSlice (el := n0) (xs := ([4, 6, 8, 3, 1, 0, 20, 12] : List Int)) (ps := [(0, (I 4)), (1, (I 6)), (2, (I 8)), (3, (I 3)), (4, (I 1)), (5, (I 0)), (6, (I 20)), (7, (I 12))]) (cs := [(I 4), (I 6), (I 8), (I 3), (I 1), (I 0), (I 20), (I 12)]) H hn0 Try.underlying29 ti3 rfl rfl (by kernel_rfl) (.cons (c := [(I 4)]) rfl (.cons (c := [(I 6)]) rfl (.cons (c := [(I 8)]) rfl (.cons (c := [(I 3)]) rfl (.cons (c := [(I 1)]) rfl (.cons (c := [(I 0)]) rfl (.cons (c := [(I 20)]) rfl (.cons (c := [(I 12)]) rfl (.nil))))))))) rfl) wn ?_
 rintro _ σ4 ⟨b3, rfl, H, -⟩
 obtain ⟨σ5, hw6, H, -⟩ := H.pub 0 rfl (Nat.le_refl _)
 rw [← hw6]; clear hw6
 replace H := H.roLow 0 0 rfl (Nat.zero_le _)
 obtain ⟨r7, hx8, h'⟩ := bind_some h
 clear h
 have h := h'; clear h'
 have hc9 := c_spec_reader_one (lor_0 := lor_0) (br_0 := br_0) (or_0 := or_0) (prer_0 := prer_0) (sufr_0 := sufr_0) (ar_0_0 := ar_0_0) (cr_0_0 := cr_0_0) (alist_1 := (some ⟨b3, 0, none⟩)) (clist_1 := 8) hx8
 refine st_call (cx_call hc9 (ent_f hc9.fn rfl) hn0 (show Hp S0 σ0 _ ([Ch.bx lor_0 br_0 or_0 [(Sl ar_0_0 r_0.1 cr_0_0), (I r_0.2)] prer_0 sufr_0, Ch.ro 0 (Sl ar_0_0 r_0.1 cr_0_0) r_0.1, Ch.ro 0 (Sl (some ⟨b3, 0, none⟩) ([4, 6, 8, 3, 1, 0, 20, 12] : List Int) 8) ([4, 6, 8, 3, 1, 0, 20, 12] : List Int)] ++ [Ch.ro 0 (Sl (some ⟨b3, 0, none⟩) ([4, 6, 8, 3, 1, 0, 20, 12] : List Int) 8) ([4, 6, 8, 3, 1, 0, 20, 12] : List Int), Ch.ro n0 (Sl (some ⟨b3, 0, none⟩) ([4, 6, 8, 3, 1, 0, 20, 12] : List Int) 8) ([4, 6, 8, 3, 1, 0, 20, 12] : List Int), Ch.own n0 n0 (Sl (some ⟨b1, 0, none⟩) ([] : List (Int × (List Int) × Int)) 0) ([] : List (Int × (List Int) × Int)), Ch.ro 0 (Sl ar_0_0 r_0.1 cr_0_0) r_0.1]) from (H.sel' [3, 4, 0, 0, 1, 2, 4] rfl rfl))) wn ?_
 rintro _ σ12 ⟨_, ⟨a10, c11, rfl, rfl⟩, H, -⟩
 replace H : Hp S0 σ0 σ12 [Ch.bx lor_0 br_0 or_0 [(Sl a10 r7.2.1 c11), (I r7.2.2)] prer_0 sufr_0, Ch.ro 0 (Sl a10 r7.2.1 c11) r7.2.1, Ch.ro 0 (Sl (some ⟨b3, 0, none⟩) ([4, 6, 8, 3, 1, 0, 20, 12] : List Int) 8) ([4, 6, 8, 3, 1, 0, 20, 12] : List Int), Ch.ro n0 (Sl (some ⟨b3, 0, none⟩) ([4, 6, 8, 3, 1, 0, 20, 12] : List Int) 8) ([4, 6, 8, 3, 1, 0, 20, 12] : List Int), Ch.own n0 n0 (Sl (some ⟨b1, 0, none⟩) ([] : List (Int × (List Int) × Int)) 0) ([] : List (Int × (List Int) × Int)), Ch.ro 0 (Sl ar_0_0 r_0.1 cr_0_0) r_0.1] := H
 refine st (v := (I r7.1)) (rv_assign rfl) ?_
 refine w_end ?_
 refine q_then ?_
 obtain ⟨o13, hj, h'⟩ := bind_some h
 clear h
 refine c_cut (fun e a w => e = .normal ∧ ∃ (ρ : Nat → Value) (σ : St) (aj1 : Option Addr) (cj2 : Nat) (aj3 : Option Addr) (cj4 : Nat), a = fr 25 (updL ρ [(0, (pt br_0 or_0)), (3, (Sl aj3 o13.2 cj4))]) ∧ w = σ.w ∧ Hp S0 σ0 σ [Ch.bx lor_0 br_0 or_0 [(Sl aj1 o13.1.1 cj2), (I o13.1.2)] prer_0 sufr_0, Ch.ro 0 (Sl aj1 o13.1.1 cj2) o13.1.1, Ch.own n0 n0 (Sl aj3 o13.2 cj4) o13.2]) ?_ ?_
 ·clear h'
  rename _ = some o13 => h
  refine c_blk ?_
  refine wp_loopM _ h (fun s14 a w => ∃ (ρ : Nat → Value) (σ : St) (aj1 : Option Addr) (cj2 : Nat) (aj3 : Option Addr) (cj4 : Nat), a = fr 25 (updL ρ [(0, (pt br_0 or_0)), (3, (Sl aj3 s14.2.1 cj4)), (4, (I s14.2.2))]) ∧ w = σ.w ∧ Hp S0 σ0 σ [Ch.bx lor_0 br_0 or_0 [(Sl aj1 s14.1.1 cj2), (I s14.1.2)] prer_0 sufr_0, Ch.ro 0 (Sl aj1 s14.1.1 cj2) s14.1.1, Ch.own n0 n0 (Sl aj3 s14.2.1 cj4) s14.2.1]) ⟨_, σ12, a10, c11, (some ⟨b1, 0, none⟩), 0, fr_join ⟨rfl, rfl, rfl, trivial⟩, rfl, H.sel' [0, 1, 4] rfl rfl⟩ ?_
  clear h H
  rintro s14 a w o ⟨ρ, σ15, a16, c17, a18, c19, rfl, rfl, H⟩ h hres
  refine c_seq ?_
  refine c_seq ?_
  refine rg ?_
  refine st (v := (I s14.2.2)) (rv_move rfl) ?_
  refine st (v := (B (decide (0 < s14.2.2)))) (rv_gtr (a := s14.2.2) (b := 0) rfl rfl) ?_
  refine w_end ?_
  refine q_then ?_
  refine cd_cond (decide (0 < s14.2.2)) rfl (fun hb20 => ?_) (fun hb20 => ?_)
  ·replace h := bif_t hb20 h
   refine c_skip ?_
   refine q_then ?_
   refine c_seq ?_
   obtain ⟨o21, hj, h'⟩ := bind_some h
   clear h
   refine c_cut (fun e a w => e = .normal ∧ ∃ (ρ : Nat → Value) (σ : St) (aj1 : Option Addr) (cj2 : Nat) (aj3 : Option Addr) (cj4 : Nat), a = fr 25 (updL ρ [(0, (pt br_0 or_0)), (3, (Sl aj3 o21.2 cj4)), (4, (I s14.2.2))]) ∧ w = σ.w ∧ Hp S0 σ0 σ [Ch.bx lor_0 br_0 or_0 [(Sl aj1 o21.1.1 cj2), (I o21.1.2)] prer_0 sufr_0, Ch.ro 0 (Sl aj1 o21.1.1 cj2) o21.1.1, Ch.own n0 n0 (Sl aj3 o21.2 cj4) o21.2]) ?_ ?_
   ·clear h'
    rename _ = some o21 => h
    refine c_blk ?_
    refine c_seq ?_
    refine rg ?_
    refine st (v := (Sl a18 s14.2.1 c19)) (rv_move rfl) ?_
    refine st (v := (pt br_0 or_0)) (rv_move rfl) ?_
    obtain ⟨r22, hx23, h'⟩ := bind_some h
    clear h
    have h := h'; clear h'
    have hc24 := c_spec_someItem (lor_0 := lor_0) (br_0 := br_0) (or_0 := or_0) (prer_0 := prer_0) (sufr_0 := sufr_0) (ar_0_0 := a16) (cr_0_0 := c17) hx23
    refine st_call (cx_call hc24 (ent_f hc24.fn rfl) hn0 (show Hp S0 σ0 _ ([Ch.bx lor_0 br_0 or_0 [(Sl a16 s14.1.1 c17), (I s14.1.2)] prer_0 sufr_0, Ch.ro 0 (Sl a16 s14.1.1 c17) s14.1.1] ++ [Ch.ro 0 (Sl a16 s14.1.1 c17) s14.1.1, Ch.own n0 n0 (Sl a18 s14.2.1 c19) s14.2.1]) from (H.sel' [0, 1, 1, 2] rfl rfl))) wn ?_
    rintro _ σ29 ⟨_, ⟨a25, c26, a27, c28, rfl, rfl⟩, H, -⟩
    replace H : Hp S0 σ0 σ29 [Ch.own n0 n0 (Sl a25 r22.1.2.1 c26) r22.1.2.1, Ch.bx lor_0 br_0 or_0 [(Sl a27 r22.2.1 c28), (I r22.2.2)] prer_0 sufr_0, Ch.ro 0 (Sl a27 r22.2.1 c28) r22.2.1, Ch.ro 0 (Sl a16 s14.1.1 c17) s14.1.1, Ch.own n0 n0 (Sl a18 s14.2.1 c19) s14.2.1] := H
    obtain ⟨σ30, hw31, H, -⟩ := H.pub 0 rfl (Nat.le_refl _)
    rw [← hw31]; clear hw31
    replace H := H.roLow 0 0 rfl (Nat.zero_le _)
    obtain ⟨r32, hx33, h'⟩ := bind_some h
    clear h
    have h := h'; clear h'
    have hc34 := c_spec_PutItem (alist_0 := a18) (clist_0 := c19) (ax_1_1 := a25) (cx_1_1 := c26) hx33
    have hle := Nat.le_trans hn0 H.size
    refine st_call (cx_lend (Loan.lend (Loan.same Loan.nil)) hc34 (ent_f hc34.fn rfl) (show Hp S0 σ0 _ ([Ch.own n0 n0 (Sl a18 s14.2.1 c19) s14.2.1] ++ ([Ch.ro 0 (Sl a25 r22.1.2.1 c26) r22.1.2.1] ++ [Ch.ro 0 (Sl a25 r22.1.2.1 c26) r22.1.2.1, Ch.ro n0 (Sl a25 r22.1.2.1 c26) r22.1.2.1, Ch.bx lor_0 br_0 or_0 [(Sl a27 r22.2.1 c28), (I r22.2.2)] prer_0 sufr_0, Ch.ro 0 (Sl a27 r22.2.1 c28) r22.2.1, Ch.ro 0 (Sl a16 s14.1.1 c17) s14.1.1])) from (H.sel' [5, 0, 0, 1, 2, 3, 4] rfl rfl)) (by rintro _ _ _ ⟨_, _, rfl, rfl⟩; exact ⟨Ab.own (Nat.le_refl _), trivial⟩)) wn ?_
    rintro _ σ37 ⟨_, ⟨a35, c36, rfl, rfl⟩, H, -, -⟩
    replace H : Hp S0 σ0 σ37 [Ch.own σ30.size σ30.size (Sl a35 r32.1 c36) r32.1, Ch.own n0 n0 (Sl a18 s14.2.1 c19) s14.2.1, Ch.ro 0 (Sl a25 r22.1.2.1 c26) r22.1.2.1, Ch.ro n0 (Sl a25 r22.1.2.1 c26) r22.1.2.1, Ch.bx lor_0 br_0 or_0 [(Sl a27 r22.2.1 c28), (I r22.2.2)] prer_0 sufr_0, Ch.ro 0 (Sl a27 r22.2.1 c28) r22.2.1, Ch.ro 0 (Sl a16 s14.1.1 c17) s14.1.1] := H
    replace H := H.ownLow 0 n0 n0 rfl hle hle
    clear hle
    replace H : Hp S0 σ0 σ37 [Ch.own n0 n0 (Sl a35 r32.1 c36) r32.1, Ch.own n0 n0 (Sl a18 s14.2.1 c19) s14.2.1, Ch.ro 0 (Sl a25 r22.1.2.1 c26) r22.1.2.1, Ch.ro n0 (Sl a25 r22.1.2.1 c26) r22.1.2.1, Ch.bx lor_0 br_0 or_0 [(Sl a27 r22.2.1 c28), (I r22.2.2)] prer_0 sufr_0, Ch.ro 0 (Sl a27 r22.2.1 c28) r22.2.1, Ch.ro 0 (Sl a16 s14.1.1 c17) s14.1.1] := H
    refine st (v := (.tuple #[(Sl a35 r32.1 c36), (B r32.2)])) (rv_move rfl) ?_
    refine st (v := (Sl a35 r32.1 c36)) (rv_extract rfl rfl) ?_
    refine st (v := (B r32.2)) (rv_extract rfl rfl) ?_
    refine st (v := (Sl a35 r32.1 c36)) (rv_assign rfl) ?_
    refine st (v := (B r32.2)) (rv_assign rfl) ?_
    refine w_end ?_
    refine q_then ?_
    refine c_seq ?_
    refine rg ?_
    refine st (v := (B r32.2)) (rv_move rfl) ?_
    refine w_end ?_
    refine q_then ?_
    refine cd_cond r32.2 rfl (fun hb38 => ?_) (fun hb38 => ?_)
    ·replace h := bif_t hb38 h
     refine rg ?_
     refine st (v := (Sl a35 r32.1 c36)) (rv_move rfl) ?_
     refine st (v := (Sl a35 r32.1 c36)) (rv_assign rfl) ?_
     refine w_end ?_
     refine q_blk ?_
     obtain rfl := Option.some.inj h
     exact ⟨rfl, _, σ37, a27, c28, a35, c36, fr_join ⟨rfl, rfl, rfl, trivial⟩, rfl, H.sel' [4, 5, 0] rfl rfl⟩
    ·replace h := bif_f hb38 h
     refine c_skip ?_
     refine q_blk ?_
     obtain rfl := Option.some.inj h
     exact ⟨rfl, _, σ37, a27, c28, a18, c19, fr_join ⟨rfl, rfl, rfl, trivial⟩, rfl, H.sel' [4, 5, 1] rfl rfl⟩
   ·clear hj
    have h := h'
    clear h' H
    rintro e a w ⟨rfl, ρ, σ39, a40, c41, a42, c43, rfl, rfl, H⟩
    refine q_then ?_
    refine rg ?_
    refine st (v := (I s14.2.2)) (rv_move rfl) ?_
    refine st (v := (I (w64 (s14.2.2 - 1)))) (rv_sub (a := s14.2.2) (b := 1) rfl rfl) ?_
    refine st (v := (I (w64 (s14.2.2 - 1)))) (rv_assign rfl) ?_
    refine w_end ?_
    refine q_then ?_
    obtain rfl := Option.some.inj h
    exact ⟨_, rfl, _, σ39, a40, c41, a42, c43, fr_join ⟨rfl, rfl, rfl, trivial⟩, rfl, H.sel' [0, 1, 2] rfl rfl⟩
  ·replace h := bif_f hb20 h
   refine c_exit ?_
   refine q_then_x ?_
   refine q_then_x ?_
   refine q_blk_hit ?_
   obtain rfl := Option.some.inj h
   obtain rfl := hres _ rfl
   exact ⟨rfl, _, σ15, a16, c17, a18, c19, fr_join ⟨rfl, rfl, trivial⟩, rfl, H.sel' [0, 1, 2] rfl rfl⟩
 ·clear hj
  have h := h'
  clear h' H
  rintro e a w ⟨rfl, ρ, σ44, a45, c46, a47, c48, rfl, rfl, H⟩
  refine q_then ?_
  refine c_seq ?_
  refine rg ?_
  refine st (v := (Sl a47 o13.2 c48)) (rv_move rfl) ?_
  refine st (v := (Sl a47 o13.2 c48)) (rv_assign rfl) ?_
  refine w_end ?_
  refine q_then ?_
  refine c_ret ?_
  obtain rfl := Option.some.inj h
  exact fin_ret (v := (Sl a47 o13.2 c48)) (results_ok Try.results95 (res_tmp (v := (Sl a47 o13.2 c48)) rfl res_nil) rfl) ⟨a47, c48, a45, c46, rfl, rfl⟩ (H.sel' [2, 0, 1] rfl rfl)

theorem c_spec_anyItem {r_0 : (List UInt8) × Int} {ar_0_0 : Option Addr} {cr_0_0 : Nat} {lor_0 br_0 or_0 : Nat} {prer_0 sufr_0 : List Value} {r : (Int × (List Int) × Int) × ((List UInt8) × Int)} (h : M.spec_anyItem r_0 = some r) :
    Cal2 Try.prog 96 [(pt br_0 or_0)] [Ch.bx lor_0 br_0 or_0 [(Sl ar_0_0 r_0.1 cr_0_0), (I r_0.2)] prer_0 sufr_0, Ch.ro 0 (Sl ar_0_0 r_0.1 cr_0_0) r_0.1] (fun n0 v L => ∃ (az1 : Option Addr), ∃ (cz2 : Nat), ∃ (az3 : Option Addr), ∃ (cz4 : Nat), v = (.agg #[(I r.1.1), (Sl az1 r.1.2.1 cz2), (I r.1.2.2)]) ∧ L = [Ch.own n0 n0 (Sl az1 r.1.2.1 cz2) r.1.2.1, Ch.bx lor_0 br_0 or_0 [(Sl az3 r.2.1 cz4), (I r.2.2)] prer_0 sufr_0, Ch.ro 0 (Sl az3 r.2.1 cz4) r.2.1]) := by
 refine cal2 (n := 26) Try.func96 rfl rfl rfl rfl ?_
 intro S0 σ0 n0 hn0 H
 unfold M.spec_anyItem at h
 refine c_seq ?_
 refine rg ?_
 refine st_ex (ex_alloc (cs := [(I 0), (.slice none 0 0), (I 0)]) H hn0 ti31 rfl) wn ?_
 rintro _ σ2 ⟨b1, rfl, H, -⟩
 refine w_end ?_
 refine q_then ?_
 refine c_seq ?_
 refine rg ?_
 refine st (v := (pt br_0 or_0)) (rv_move rfl) ?_
 obtain ⟨r3, hx4, h'⟩ := bind_some h
 clear h
 have h := h'; clear h'
 have hc5 := c_spec_someItem (lor_0 := lor_0) (br_0 := br_0) (or_0 := or_0) (prer_0 := prer_0) (sufr_0 := sufr_0) (ar_0_0 := ar_0_0) (cr_0_0 := cr_0_0) hx4
 refine st_call (cx_call hc5 (ent_f hc5.fn rfl) hn0 (show Hp S0 σ0 _ ([Ch.bx lor_0 br_0 or_0 [(Sl ar_0_0 r_0.1 cr_0_0), (I r_0.2)] prer_0 sufr_0, Ch.ro 0 (Sl ar_0_0 r_0.1 cr_0_0) r_0.1] ++ [Ch.bx n0 b1 0 [(I 0), (.slice none 0 0), (I 0)] [] [], Ch.ro 0 (Sl ar_0_0 r_0.1 cr_0_0) r_0.1]) from (H.sel' [1, 2, 0, 2] rfl rfl))) wn ?_
 rintro _ σ10 ⟨_, ⟨a6, c7, a8, c9, rfl, rfl⟩, H, -⟩
 replace H : Hp S0 σ0 σ10 [Ch.own n0 n0 (Sl a6 r3.1.2.1 c7) r3.1.2.1, Ch.bx lor_0 br_0 or_0 [(Sl a8 r3.2.1 c9), (I r3.2.2)] prer_0 sufr_0, Ch.ro 0 (Sl a8 r3.2.1 c9) r3.2.1, Ch.bx n0 b1 0 [(I 0), (.slice none 0 0), (I 0)] [] [], Ch.ro 0 (Sl ar_0_0 r_0.1 cr_0_0) r_0.1] := H
 refine st_ex (ex_alloc (cs := [(I 0), (.slice none 0 0), (I 0)]) H hn0 ti31 rfl) wn ?_
 rintro _ σ12 ⟨b11, rfl, H, -⟩
 refine st_exS (ex_store_box (k := 0) (cs := [(I 0), (.slice none 0 0), (I 0)]) (vs := [(I r3.1.1), (Sl a6 r3.1.2.1 c7), (I r3.1.2.2)]) (cs' := [(I r3.1.1), (Sl a6 r3.1.2.1 c7), (I r3.1.2.2)]) H (i := 0) rfl ti31 rfl rfl rfl rfl rfl (Nat.le_of_ble_eq_true rfl) (by simp [plain]) rfl) wn ?_
 rintro σ13 ⟨H, -⟩
 refine w_end ?_
 refine q_then ?_
 refine c_seq ?_
 refine c_seq ?_
 refine rg ?_
 refine st (v := (pt br_0 or_0)) (rv_move rfl) ?_
 obtain ⟨r14, hx15, h'⟩ := bind_some h
 clear h
 have h := h'; clear h'
 have hc16 := c_spec_reader_pick (lor_0 := lor_0) (br_0 := br_0) (or_0 := or_0) (prer_0 := prer_0) (sufr_0 := sufr_0) (ar_0_0 := a8) (cr_0_0 := c9) hx15
 refine st_call (cx_call hc16 (ent_f hc16.fn rfl) hn0 (show Hp S0 σ0 _ ([Ch.bx lor_0 br_0 or_0 [(Sl a8 r3.2.1 c9), (I r3.2.2)] prer_0 sufr_0, Ch.ro 0 (Sl a8 r3.2.1 c9) r3.2.1] ++ [Ch.bx n0 b11 0 [(I r3.1.1), (Sl a6 r3.1.2.1 c7), (I r3.1.2.2)] [] [], Ch.own n0 n0 (Sl a6 r3.1.2.1 c7) r3.1.2.1, Ch.ro 0 (Sl a8 r3.2.1 c9) r3.2.1, Ch.bx n0 b1 0 [(I 0), (.slice none 0 0), (I 0)] [] [], Ch.ro 0 (Sl ar_0_0 r_0.1 cr_0_0) r_0.1]) from (H.sel' [2, 3, 0, 1, 3, 4, 5] rfl rfl))) wn ?_
 rintro _ σ19 ⟨_, ⟨a17, c18, rfl, rfl⟩, H, -⟩
 replace H : Hp S0 σ0 σ19 [Ch.bx lor_0 br_0 or_0 [(Sl a17 r14.2.1 c18), (I r14.2.2)] prer_0 sufr_0, Ch.ro 0 (Sl a17 r14.2.1 c18) r14.2.1, Ch.bx n0 b11 0 [(I r3.1.1), (Sl a6 r3.1.2.1 c7), (I r3.1.2.2)] [] [], Ch.own n0 n0 (Sl a6 r3.1.2.1 c7) r3.1.2.1, Ch.ro 0 (Sl a8 r3.2.1 c9) r3.2.1, Ch.bx n0 b1 0 [(I 0), (.slice none 0 0), (I 0)] [] [], Ch.ro 0 (Sl ar_0_0 r_0.1 cr_0_0) r_0.1] := H
 refine w_end ?_
 refine q_then ?_
 obtain ⟨o20, hj, h'⟩ := bind_some h
 clear h
 refine c_cut (fun e a w => e = .normal ∧ ∃ (ρ : Nat → Value) (σ : St) (aj1 : Option Addr) (cj2 : Nat) (aj3 : Option Addr) (cj4 : Nat), a = fr 26 (updL ρ [(0, (pt br_0 or_0)), (2, (pt b1 0)), (3, (pt b11 0))]) ∧ w = σ.w ∧ Hp S0 σ0 σ [Ch.bx lor_0 br_0 or_0 [(Sl aj1 o20.1.1 cj2), (I o20.1.2)] prer_0 sufr_0, Ch.ro 0 (Sl aj1 o20.1.1 cj2) o20.1.1, Ch.bx n0 b11 0 [(I o20.2.1), (Sl aj3 o20.2.2.1 cj4), (I o20.2.2.2)] [] [], Ch.own n0 n0 (Sl aj3 o20.2.2.1 cj4) o20.2.2.1, Ch.bx n0 b1 0 [(I 0), (.slice none 0 0), (I 0)] [] []]) ?_ ?_
 ·clear h'
  rename _ = some o20 => h
  refine c_blk ?_
  refine c_seq ?_
  refine rg ?_
  refine st (v := (B (r14.1 == 0))) (rv_eql (a := r14.1) (b := 0) rfl rfl) ?_
  refine st (v := (B (r14.1 == 0))) (rv_assign rfl) ?_
  refine w_end ?_
  refine q_then ?_
  refine cd_cond (r14.1 == 0) rfl (fun hb21 => ?_) (fun hb21 => ?_)
  ·replace h := bif_t hb21 h
   refine rg ?_
   refine st (v := (pt br_0 or_0)) (rv_move rfl) ?_
   refine st_ex (ex_buildSlice (el := n0) (xs := ([0, 99, 100] : List Int)) (ps := [(0, (I 0)), (1, (I 99)), (2, (I 100))]) (cs := [(I 0), (I 99), (I 100)]) H hn0 Try.underlying29 ti3 rfl rfl (by kernel_rfl) (.cons (c := [(I 0)]) rfl (.cons (c := [(I 99)]) rfl (.cons (c := [(I 100)]) rfl (.nil)))) rfl) wn ?_
   rintro _ σ23 ⟨b22, rfl, H, -⟩
   replace H : Hp S0 σ0 σ23 [Ch.own n0 n0 (Sl (some ⟨b22, 0, none⟩) ([0, 99, 100] : List Int) 3) ([0, 99, 100] : List Int), Ch.bx lor_0 br_0 or_0 [(Sl a17 r14.2.1 c18), (I r14.2.2)] prer_0 sufr_0, Ch.ro 0 (Sl a17 r14.2.1 c18) r14.2.1, Ch.bx n0 b11 0 [(I r3.1.1), (Sl a6 r3.1.2.1 c7), (I r3.1.2.2)] [] [], Ch.own n0 n0 (Sl a6 r3.1.2.1 c7) r3.1.2.1, Ch.bx n0 b1 0 [(I 0), (.slice none 0 0), (I 0)] [] []] := H.sel' [0, 1, 2, 3, 4, 6] rfl rfl
   obtain ⟨σ24, hw25, H, -⟩ := H.pub 0 rfl (Nat.le_refl _)
   rw [← hw25]; clear hw25
   replace H := H.roLow 0 0 rfl (Nat.zero_le _)
   obtain ⟨r26, hx27, h'⟩ := bind_some h
   clear h
   have h := h'; clear h'
   have hc28 := c_spec_reader_one (lor_0 := lor_0) (br_0 := br_0) (or_0 := or_0) (prer_0 := prer_0) (sufr_0 := sufr_0) (ar_0_0 := a17) (cr_0_0 := c18) (alist_1 := (some ⟨b22, 0, none⟩)) (clist_1 := 3) hx27
   refine st_call (cx_call hc28 (ent_f hc28.fn rfl) hn0 (show Hp S0 σ0 _ ([Ch.bx lor_0 br_0 or_0 [(Sl a17 r14.2.1 c18), (I r14.2.2)] prer_0 sufr_0, Ch.ro 0 (Sl a17 r14.2.1 c18) r14.2.1, Ch.ro 0 (Sl (some ⟨b22, 0, none⟩) ([0, 99, 100] : List Int) 3) ([0, 99, 100] : List Int)] ++ [Ch.ro 0 (Sl (some ⟨b22, 0, none⟩) ([0, 99, 100] : List Int) 3) ([0, 99, 100] : List Int), Ch.ro n0 (Sl (some ⟨b22, 0, none⟩) ([0, 99, 100] : List Int) 3) ([0, 99, 100] : List Int), Ch.ro 0 (Sl a17 r14.2.1 c18) r14.2.1, Ch.bx n0 b11 0 [(I r3.1.1), (Sl a6 r3.1.2.1 c7), (I r3.1.2.2)] [] [], Ch.own n0 n0 (Sl a6 r3.1.2.1 c7) r3.1.2.1, Ch.bx n0 b1 0 [(I 0), (.slice none 0 0), (I 0)] [] []]) from (H.sel' [2, 3, 0, 0, 1, 3, 4, 5, 6] rfl rfl))) wn ?_
   rintro _ σ31 ⟨_, ⟨a29, c30, rfl, rfl⟩, H, -⟩
   replace H : Hp S0 σ0 σ31 [Ch.bx lor_0 br_0 or_0 [(Sl a29 r26.2.1 c30), (I r26.2.2)] prer_0 sufr_0, Ch.ro 0 (Sl a29 r26.2.1 c30) r26.2.1, Ch.ro 0 (Sl (some ⟨b22, 0, none⟩) ([0, 99, 100] : List Int) 3) ([0, 99, 100] : List Int), Ch.ro n0 (Sl (some ⟨b22, 0, none⟩) ([0, 99, 100] : List Int) 3) ([0, 99, 100] : List Int), Ch.ro 0 (Sl a17 r14.2.1 c18) r14.2.1, Ch.bx n0 b11 0 [(I r3.1.1), (Sl a6 r3.1.2.1 c7), (I r3.1.2.2)] [] [], Ch.own n0 n0 (Sl a6 r3.1.2.1 c7) r3.1.2.1, Ch.bx n0 b1 0 [(I 0), (.slice none 0 0), (I 0)] [] []] := H
   replace H : Hp S0 σ0 σ31 [Ch.bx lor_0 br_0 or_0 [(Sl a29 r26.2.1 c30), (I r26.2.2)] prer_0 sufr_0, Ch.ro 0 (Sl a29 r26.2.1 c30) r26.2.1, Ch.bx n0 b11 0 [(I r3.1.1), (Sl a6 r3.1.2.1 c7), (I r3.1.2.2)] [] [], Ch.own n0 n0 (Sl a6 r3.1.2.1 c7) r3.1.2.1, Ch.bx n0 b1 0 [(I 0), (.slice none 0 0), (I 0)] [] []] := H.sel' [0, 1, 5, 6, 7] rfl rfl
   refine st (v := (pt b11 0)) (rv_fieldAddr (off := 0) (ft := 3) Try.underlying31 rfl ti3 rfl rfl) ?_
   refine st_exS (ex_store_box (k := 0) (cs := [(I r3.1.1), (Sl a6 r3.1.2.1 c7), (I r3.1.2.2)]) (vs := [(I r26.1)]) (cs' := [(I r26.1), (Sl a6 r3.1.2.1 c7), (I r3.1.2.2)]) H (i := 2) rfl ti3 rfl rfl rfl rfl rfl (Nat.le_of_ble_eq_true rfl) (by simp [plain]) rfl) wn ?_
   rintro σ32 ⟨H, -⟩
   refine w_end ?_
   refine q_blk ?_
   obtain rfl := Option.some.inj h
   exact ⟨rfl, _, σ32, a29, c30, a6, c7, fr_join ⟨rfl, rfl, rfl, trivial⟩, rfl, H.sel' [1, 2, 0, 3, 4] rfl rfl⟩
  ·replace h := bif_f hb21 h
   refine c_seq ?_
   refine rg ?_
   refine st (v := (B (r14.1 == 1))) (rv_eql (a := r14.1) (b := 1) rfl rfl) ?_
   refine st (v := (B (r14.1 == 1))) (rv_assign rfl) ?_
   refine w_end ?_
   refine q_then ?_
   refine cd_cond (r14.1 == 1) rfl (fun hb33 => ?_) (fun hb33 => ?_)
   ·replace h := bif_t hb33 h
    refine rg ?_
    refine st (v := (pt br_0 or_0)) (rv_move rfl) ?_
    obtain ⟨r34, hx35, h'⟩ := bind_some h
    clear h
    have h := h'; clear h'
    have hc36 := c_spec_anyVector (lor_0 := lor_0) (br_0 := br_0) (or_0 := or_0) (prer_0 := prer_0) (sufr_0 := sufr_0) (ar_0_0 := a17) (cr_0_0 := c18) hx35
    refine st_call (cx_call hc36 (ent_f hc36.fn rfl) hn0 (show Hp S0 σ0 _ ([Ch.bx lor_0 br_0 or_0 [(Sl a17 r14.2.1 c18), (I r14.2.2)] prer_0 sufr_0, Ch.ro 0 (Sl a17 r14.2.1 c18) r14.2.1] ++ [Ch.ro 0 (Sl a17 r14.2.1 c18) r14.2.1, Ch.bx n0 b11 0 [(I r3.1.1), (Sl a6 r3.1.2.1 c7), (I r3.1.2.2)] [] [], Ch.own n0 n0 (Sl a6 r3.1.2.1 c7) r3.1.2.1, Ch.ro 0 (Sl a8 r3.2.1 c9) r3.2.1, Ch.bx n0 b1 0 [(I 0), (.slice none 0 0), (I 0)] [] [], Ch.ro 0 (Sl ar_0_0 r_0.1 cr_0_0) r_0.1]) from (H.sel' [0, 1, 1, 2, 3, 4, 5, 6] rfl rfl))) wn ?_
    rintro _ σ41 ⟨_, ⟨a37, c38, a39, c40, rfl, rfl⟩, H, -⟩
    replace H : Hp S0 σ0 σ41 [Ch.own n0 n0 (Sl a37 r34.1 c38) r34.1, Ch.bx lor_0 br_0 or_0 [(Sl a39 r34.2.1 c40), (I r34.2.2)] prer_0 sufr_0, Ch.ro 0 (Sl a39 r34.2.1 c40) r34.2.1, Ch.ro 0 (Sl a17 r14.2.1 c18) r14.2.1, Ch.bx n0 b11 0 [(I r3.1.1), (Sl a6 r3.1.2.1 c7), (I r3.1.2.2)] [] [], Ch.own n0 n0 (Sl a6 r3.1.2.1 c7) r3.1.2.1, Ch.ro 0 (Sl a8 r3.2.1 c9) r3.2.1, Ch.bx n0 b1 0 [(I 0), (.slice none 0 0), (I 0)] [] [], Ch.ro 0 (Sl ar_0_0 r_0.1 cr_0_0) r_0.1] := H
    replace H : Hp S0 σ0 σ41 [Ch.own n0 n0 (Sl a37 r34.1 c38) r34.1, Ch.bx lor_0 br_0 or_0 [(Sl a39 r34.2.1 c40), (I r34.2.2)] prer_0 sufr_0, Ch.ro 0 (Sl a39 r34.2.1 c40) r34.2.1, Ch.bx n0 b11 0 [(I r3.1.1), (Sl a6 r3.1.2.1 c7), (I r3.1.2.2)] [] [], Ch.own n0 n0 (Sl a6 r3.1.2.1 c7) r3.1.2.1, Ch.bx n0 b1 0 [(I 0), (.slice none 0 0), (I 0)] [] []] := H.sel' [0, 1, 2, 4, 5, 7] rfl rfl
    refine st (v := (pt b11 1)) (rv_fieldAddr (off := 1) (ft := 29) Try.underlying31 rfl ti29 rfl rfl) ?_
    refine st_exS (ex_store_box (k := 1) (cs := [(I r3.1.1), (Sl a6 r3.1.2.1 c7), (I r3.1.2.2)]) (vs := [(Sl a37 r34.1 c38)]) (cs' := [(I r3.1.1), (Sl a37 r34.1 c38), (I r3.1.2.2)]) H (i := 3) rfl ti29 rfl rfl rfl rfl rfl (Nat.le_of_ble_eq_true rfl) (by simp [plain]) rfl) wn ?_
    rintro σ42 ⟨H, -⟩
    refine w_end ?_
    refine q_blk ?_
    obtain rfl := Option.some.inj h
    exact ⟨rfl, _, σ42, a39, c40, a37, c38, fr_join ⟨rfl, rfl, rfl, trivial⟩, rfl, H.sel' [2, 3, 0, 1, 5] rfl rfl⟩
   ·replace h := bif_f hb33 h
    refine c_seq ?_
    refine rg ?_
    refine st (v := (B (r14.1 == 2))) (rv_eql (a := r14.1) (b := 2) rfl rfl) ?_
    refine st (v := (B (r14.1 == 2))) (rv_assign rfl) ?_
    refine w_end ?_
    refine q_then ?_
    refine cd_cond (r14.1 == 2) rfl (fun hb43 => ?_) (fun hb43 => ?_)
    ·replace h := bif_t hb43 h
     refine rg ?_
     refine st (v := (pt br_0 or_0)) (rv_move rfl) ?_
     refine st_ex (ex_buildSlice (el := n0) (xs := ([-1, 16] : List Int)) (ps := [(0, (I (-1))), (1, (I 16))]) (cs := [(I (-1)), (I 16)]) H hn0 Try.underlying29 ti3 rfl rfl (by kernel_rfl) (.cons (c := [(I (-1))]) rfl (.cons (c := [(I 16)]) rfl (.nil))) rfl) wn ?_
     rintro _ σ45 ⟨b44, rfl, H, -⟩
     replace H : Hp S0 σ0 σ45 [Ch.own n0 n0 (Sl (some ⟨b44, 0, none⟩) ([-1, 16] : List Int) 2) ([-1, 16] : List Int), Ch.bx lor_0 br_0 or_0 [(Sl a17 r14.2.1 c18), (I r14.2.2)] prer_0 sufr_0, Ch.ro 0 (Sl a17 r14.2.1 c18) r14.2.1, Ch.bx n0 b11 0 [(I r3.1.1), (Sl a6 r3.1.2.1 c7), (I r3.1.2.2)] [] [], Ch.own n0 n0 (Sl a6 r3.1.2.1 c7) r3.1.2.1, Ch.bx n0 b1 0 [(I 0), (.slice none 0 0), (I 0)] [] []] := H.sel' [0, 1, 2, 3, 4, 6] rfl rfl
     obtain ⟨σ46, hw47, H, -⟩ := H.pub 0 rfl (Nat.le_refl _)
     rw [← hw47]; clear hw47
     replace H := H.roLow 0 0 rfl (Nat.zero_le _)
     obtain ⟨r48, hx49, h'⟩ := bind_some h
     clear h
     have h := h'; clear h'
     have hc50 := c_spec_reader_one (lor_0 := lor_0) (br_0 := br_0) (or_0 := or_0) (prer_0 := prer_0) (sufr_0 := sufr_0) (ar_0_0 := a17) (cr_0_0 := c18) (alist_1 := (some ⟨b44, 0, none⟩)) (clist_1 := 2) hx49
     refine st_call (cx_call hc50 (ent_f hc50.fn rfl) hn0 (show Hp S0 σ0 _ ([Ch.bx lor_0 br_0 or_0 [(Sl a17 r14.2.1 c18), (I r14.2.2)] prer_0 sufr_0, Ch.ro 0 (Sl a17 r14.2.1 c18) r14.2.1, Ch.ro 0 (Sl (some ⟨b44, 0, none⟩) ([-1, 16] : List Int) 2) ([-1, 16] : List Int)] ++ [Ch.ro 0 (Sl (some ⟨b44, 0, none⟩) ([-1, 16] : List Int) 2) ([-1, 16] : List Int), Ch.ro n0 (Sl (some ⟨b44, 0, none⟩) ([-1, 16] : List Int) 2) ([-1, 16] : List Int), Ch.ro 0 (Sl a17 r14.2.1 c18) r14.2.1, Ch.bx n0 b11 0 [(I r3.1.1), (Sl a6 r3.1.2.1 c7), (I r3.1.2.2)] [] [], Ch.own n0 n0 (Sl a6 r3.1.2.1 c7) r3.1.2.1, Ch.bx n0 b1 0 [(I 0), (.slice none 0 0), (I 0)] [] []]) from (H.sel' [2, 3, 0, 0, 1, 3, 4, 5, 6] rfl rfl))) wn ?_
     rintro _ σ53 ⟨_, ⟨a51, c52, rfl, rfl⟩, H, -⟩
     replace H : Hp S0 σ0 σ53 [Ch.bx lor_0 br_0 or_0 [(Sl a51 r48.2.1 c52), (I r48.2.2)] prer_0 sufr_0, Ch.ro 0 (Sl a51 r48.2.1 c52) r48.2.1, Ch.ro 0 (Sl (some ⟨b44, 0, none⟩) ([-1, 16] : List Int) 2) ([-1, 16] : List Int), Ch.ro n0 (Sl (some ⟨b44, 0, none⟩) ([-1, 16] : List Int) 2) ([-1, 16] : List Int), Ch.ro 0 (Sl a17 r14.2.1 c18) r14.2.1, Ch.bx n0 b11 0 [(I r3.1.1), (Sl a6 r3.1.2.1 c7), (I r3.1.2.2)] [] [], Ch.own n0 n0 (Sl a6 r3.1.2.1 c7) r3.1.2.1, Ch.bx n0 b1 0 [(I 0), (.slice none 0 0), (I 0)] [] []] := H
     replace H : Hp S0 σ0 σ53 [Ch.bx lor_0 br_0 or_0 [(Sl a51 r48.2.1 c52), (I r48.2.2)] prer_0 sufr_0, Ch.ro 0 (Sl a51 r48.2.1 c52) r48.2.1, Ch.bx n0 b11 0 [(I r3.1.1), (Sl a6 r3.1.2.1 c7), (I r3.1.2.2)] [] [], Ch.own n0 n0 (Sl a6 r3.1.2.1 c7) r3.1.2.1, Ch.bx n0 b1 0 [(I 0), (.slice none 0 0), (I 0)] [] []] := H.sel' [0, 1, 5, 6, 7] rfl rfl
     refine st (v := (pt b11 2)) (rv_fieldAddr (off := 2) (ft := 3) Try.underlying31 rfl ti3 rfl rfl) ?_
     refine st_exS (ex_store_box (k := 2) (cs := [(I r3.1.1), (Sl a6 r3.1.2.1 c7), (I r3.1.2.2)]) (vs := [(I r48.1)]) (cs' := [(I r3.1.1), (Sl a6 r3.1.2.1 c7), (I r48.1)]) H (i := 2) rfl ti3 rfl rfl rfl rfl rfl (Nat.le_of_ble_eq_true rfl) (by simp [plain]) rfl) wn ?_
     rintro σ54 ⟨H, -⟩
     refine w_end ?_
     refine q_blk ?_
     obtain rfl := Option.some.inj h
     exact ⟨rfl, _, σ54, a51, c52, a6, c7, fr_join ⟨rfl, rfl, rfl, trivial⟩, rfl, H.sel' [1, 2, 0, 3, 4] rfl rfl⟩
    ·replace h := bif_f hb43 h
     refine c_skip ?_
     refine q_blk ?_
     obtain rfl := Option.some.inj h
     exact ⟨rfl, _, σ19, a17, c18, a6, c7, fr_join ⟨rfl, rfl, rfl, trivial⟩, rfl, H.sel' [0, 1, 2, 3, 5] rfl rfl⟩
 ·clear hj
  have h := h'
  clear h' H
  rintro e a w ⟨rfl, ρ, σ55, a56, c57, a58, c59, rfl, rfl, H⟩
  refine q_then ?_
  refine c_seq ?_
  refine rg ?_
  have hc60 := H.cells 2 rfl
  refine st (v := (.agg #[(I o20.2.1), (Sl a58 o20.2.2.1 c59), (I o20.2.2.2)])) (rv_load (cs := [(I o20.2.1), (Sl a58 o20.2.2.1 c59), (I o20.2.2.2)]) Try.underlying31 rfl ti31 rfl rfl hc60) ?_
  refine st_exS (ex_store_box (k := 0) (cs := [(I 0), (.slice none 0 0), (I 0)]) (vs := [(I o20.2.1), (Sl a58 o20.2.2.1 c59), (I o20.2.2.2)]) (cs' := [(I o20.2.1), (Sl a58 o20.2.2.1 c59), (I o20.2.2.2)]) H (i := 4) rfl ti31 rfl rfl rfl rfl rfl (Nat.le_of_ble_eq_true rfl) (by simp [plain]) rfl) wn ?_
  rintro σ61 ⟨H, -⟩
  refine w_end ?_
  refine q_then ?_
  refine c_ret ?_
  obtain rfl := Option.some.inj h
  exact fin_ret (v := (.agg #[(I o20.2.1), (Sl a58 o20.2.2.1 c59), (I o20.2.2.2)])) (results_ok Try.results96 (res_cell rfl (run_cellRes (cs := [(I o20.2.1), (Sl a58 o20.2.2.1 c59), (I o20.2.2.2)]) Try.underlying31 rfl ti31 rfl (H.cells 0 rfl)) res_nil) rfl) ⟨a58, c59, a56, c57, rfl, rfl⟩ (H.sel' [4, 1, 2] rfl rfl)

theorem c_spec_anyStore {r_0 : (List UInt8) × Int} {ar_0_0 : Option Addr} {cr_0_0 : Nat} {lor_0 br_0 or_0 : Nat} {prer_0 sufr_0 : List Value} {r : (List (Int × (List Int) × Int)) × ((List UInt8) × Int)} (h : M.spec_anyStore r_0 = some r) :
    Cal2 Try.prog 69 [(pt br_0 or_0)] [Ch.bx lor_0 br_0 or_0 [(Sl ar_0_0 r_0.1 cr_0_0), (I r_0.2)] prer_0 sufr_0, Ch.ro 0 (Sl ar_0_0 r_0.1 cr_0_0) r_0.1] (fun n0 v L => ∃ (az1 : Option Addr), ∃ (cz2 : Nat), ∃ (az3 : Option Addr), ∃ (cz4 : Nat), v = (Sl az1 r.1 cz2) ∧ L = [Ch.own n0 n0 (Sl az1 r.1 cz2) r.1, Ch.bx lor_0 br_0 or_0 [(Sl az3 r.2.1 cz4), (I r.2.2)] prer_0 sufr_0, Ch.ro 0 (Sl az3 r.2.1 cz4) r.2.1]) := by
 refine cal2 (n := 30) Try.func69 rfl rfl rfl rfl ?_
 intro S0 σ0 n0 hn0 H
 unfold M.spec_anyStore at h
 refine c_seq ?_
 refine rg ?_
 refine st (v := (.slice none 0 0)) (rv_assign rfl) ?_
 refine w_end ?_
 refine q_then ?_
 refine c_seq ?_
 refine rg ?_
 refine st (v := (pt br_0 or_0)) (rv_move rfl) ?_
 obtain ⟨r1, hx2, h'⟩ := bind_some h
 clear h
 have h := h'; clear h'
 have hc3 := c_spec_someStore (lor_0 := lor_0) (br_0 := br_0) (or_0 := or_0) (prer_0 := prer_0) (sufr_0 := sufr_0) (ar_0_0 := ar_0_0) (cr_0_0 := cr_0_0) hx2
 refine st_call (cx_call hc3 (ent_f hc3.fn rfl) hn0 (show Hp S0 σ0 _ ([Ch.bx lor_0 br_0 or_0 [(Sl ar_0_0 r_0.1 cr_0_0), (I r_0.2)] prer_0 sufr_0, Ch.ro 0 (Sl ar_0_0 r_0.1 cr_0_0) r_0.1] ++ [Ch.ro 0 (Sl ar_0_0 r_0.1 cr_0_0) r_0.1]) from (H.sel' [0, 1, 1] rfl rfl))) wn ?_
 rintro _ σ8 ⟨_, ⟨a4, c5, a6, c7, rfl, rfl⟩, H, -⟩
 replace H : Hp S0 σ0 σ8 [Ch.own n0 n0 (Sl a4 r1.1 c5) r1.1, Ch.bx lor_0 br_0 or_0 [(Sl a6 r1.2.1 c7), (I r1.2.2)] prer_0 sufr_0, Ch.ro 0 (Sl a6 r1.2.1 c7) r1.2.1, Ch.ro 0 (Sl ar_0_0 r_0.1 cr_0_0) r_0.1] := H
 refine st (v := (Sl a4 r1.1 c5)) (rv_assign rfl) ?_
 refine w_end ?_
 refine q_then ?_
 refine c_seq ?_
 refine c_seq ?_
 refine rg ?_
 refine st (v := (pt br_0 or_0)) (rv_move rfl) ?_
 obtain ⟨r9, hx10, h'⟩ := bind_some h
 clear h
 have h := h'; clear h'
 have hc11 := c_spec_reader_pick (lor_0 := lor_0) (br_0 := br_0) (or_0 := or_0) (prer_0 := prer_0) (sufr_0 := sufr_0) (ar_0_0 := a6) (cr_0_0 := c7) hx10
 refine st_call (cx_call hc11 (ent_f hc11.fn rfl) hn0 (show Hp S0 σ0 _ ([Ch.bx lor_0 br_0 or_0 [(Sl a6 r1.2.1 c7), (I r1.2.2)] prer_0 sufr_0, Ch.ro 0 (Sl a6 r1.2.1 c7) r1.2.1] ++ [Ch.own n0 n0 (Sl a4 r1.1 c5) r1.1, Ch.ro 0 (Sl a6 r1.2.1 c7) r1.2.1, Ch.ro 0 (Sl ar_0_0 r_0.1 cr_0_0) r_0.1]) from (H.sel' [1, 2, 0, 2, 3] rfl rfl))) wn ?_
 rintro _ σ14 ⟨_, ⟨a12, c13, rfl, rfl⟩, H, -⟩
 replace H : Hp S0 σ0 σ14 [Ch.bx lor_0 br_0 or_0 [(Sl a12 r9.2.1 c13), (I r9.2.2)] prer_0 sufr_0, Ch.ro 0 (Sl a12 r9.2.1 c13) r9.2.1, Ch.own n0 n0 (Sl a4 r1.1 c5) r1.1, Ch.ro 0 (Sl a6 r1.2.1 c7) r1.2.1, Ch.ro 0 (Sl ar_0_0 r_0.1 cr_0_0) r_0.1] := H
 refine w_end ?_
 refine q_then ?_
 obtain ⟨o15, hj, h'⟩ := bind_some h
 clear h
 refine c_cut (fun e a w => e = .normal ∧ ∃ (ρ : Nat → Value) (σ : St) (aj1 : Option Addr) (cj2 : Nat) (aj3 : Option Addr) (cj4 : Nat), a = fr 30 (updL ρ [(0, (pt br_0 or_0)), (3, (Sl aj3 o15.2 cj4))]) ∧ w = σ.w ∧ Hp S0 σ0 σ [Ch.bx lor_0 br_0 or_0 [(Sl aj1 o15.1.1 cj2), (I o15.1.2)] prer_0 sufr_0, Ch.ro 0 (Sl aj1 o15.1.1 cj2) o15.1.1, Ch.own n0 n0 (Sl aj3 o15.2 cj4) o15.2]) ?_ ?_
 ·clear h'
  rename _ = some o15 => h
  refine c_blk ?_
  refine c_seq ?_
  refine rg ?_
  refine st (v := (B (r9.1 == 0))) (rv_eql (a := r9.1) (b := 0) rfl rfl) ?_
  refine st (v := (B (r9.1 == 0))) (rv_assign rfl) ?_
  refine w_end ?_
  refine q_then ?_
  refine cd_cond (r9.1 == 0) rfl (fun hb16 => ?_) (fun hb16 => ?_)
  ·replace h := bif_t hb16 h
   refine rg ?_
   refine st (v := (Sl a4 r1.1 c5)) (rv_move rfl) ?_
   refine st (v := (pt br_0 or_0)) (rv_move rfl) ?_
   obtain ⟨r17, hx18, h'⟩ := bind_some h
   clear h
   have h := h'; clear h'
   have hc19 := c_spec_anyItem (lor_0 := lor_0) (br_0 := br_0) (or_0 := or_0) (prer_0 := prer_0) (sufr_0 := sufr_0) (ar_0_0 := a12) (cr_0_0 := c13) hx18
   refine st_call (cx_call hc19 (ent_f hc19.fn rfl) hn0 (show Hp S0 σ0 _ ([Ch.bx lor_0 br_0 or_0 [(Sl a12 r9.2.1 c13), (I r9.2.2)] prer_0 sufr_0, Ch.ro 0 (Sl a12 r9.2.1 c13) r9.2.1] ++ [Ch.ro 0 (Sl a12 r9.2.1 c13) r9.2.1, Ch.own n0 n0 (Sl a4 r1.1 c5) r1.1, Ch.ro 0 (Sl a6 r1.2.1 c7) r1.2.1, Ch.ro 0 (Sl ar_0_0 r_0.1 cr_0_0) r_0.1]) from (H.sel' [0, 1, 1, 2, 3, 4] rfl rfl))) wn ?_
   rintro _ σ24 ⟨_, ⟨a20, c21, a22, c23, rfl, rfl⟩, H, -⟩
   replace H : Hp S0 σ0 σ24 [Ch.own n0 n0 (Sl a20 r17.1.2.1 c21) r17.1.2.1, Ch.bx lor_0 br_0 or_0 [(Sl a22 r17.2.1 c23), (I r17.2.2)] prer_0 sufr_0, Ch.ro 0 (Sl a22 r17.2.1 c23) r17.2.1, Ch.ro 0 (Sl a12 r9.2.1 c13) r9.2.1, Ch.own n0 n0 (Sl a4 r1.1 c5) r1.1, Ch.ro 0 (Sl a6 r1.2.1 c7) r1.2.1, Ch.ro 0 (Sl ar_0_0 r_0.1 cr_0_0) r_0.1] := H
   obtain ⟨σ25, hw26, H, -⟩ := H.pub 0 rfl (Nat.le_refl _)
   rw [← hw26]; clear hw26
   refine st_ex (ex_buildSlice (el := n0) (xs := ([(r17.1.1, r17.1.2.1, r17.1.2.2)] : List (Int × (List Int) × Int))) (ps := [(0, (.agg #[(I r17.1.1), (Sl a20 r17.1.2.1 c21), (I r17.1.2.2)]))]) (cs := [(I r17.1.1), (Sl a20 r17.1.2.1 c21), (I r17.1.2.2)]) H hn0 Try.underlying24 ti31 rfl rfl (by kernel_rfl) (.cons (c := [(I r17.1.1), (Sl a20 r17.1.2.1 c21), (I r17.1.2.2)]) ⟨[(I r17.1.1)], [(Sl a20 r17.1.2.1 c21), (I r17.1.2.2)], rfl, rfl, ⟨[(Sl a20 r17.1.2.1 c21)], [(I r17.1.2.2)], rfl, ⟨_, rfl, (H.ro 0 rfl)⟩, rfl⟩⟩ (.nil)) rfl) wn ?_
   rintro _ σ28 ⟨b27, rfl, H, -⟩
   replace H : Hp S0 σ0 σ28 [Ch.own n0 n0 (Sl (some ⟨b27, 0, none⟩) ([(r17.1.1, r17.1.2.1, r17.1.2.2)] : List (Int × (List Int) × Int)) 1) ([(r17.1.1, r17.1.2.1, r17.1.2.2)] : List (Int × (List Int) × Int)), Ch.bx lor_0 br_0 or_0 [(Sl a22 r17.2.1 c23), (I r17.2.2)] prer_0 sufr_0, Ch.ro 0 (Sl a22 r17.2.1 c23) r17.2.1, Ch.own n0 n0 (Sl a4 r1.1 c5) r1.1] := H.sel' [0, 2, 3, 5] rfl rfl
   obtain ⟨xs29, hx30, h'⟩ := bind_some h
   clear h
   have h := h'; clear h'
   refine st_ex (ex_append H (i := 3) rfl Try.underlying24 Try.underlying24 ti31 rfl rfl (by decide) (H.own 0 rfl).rd hx30 hn0 rfl rfl) wn ?_
   rintro _ σ33 ⟨a31, c32, rfl, H, -⟩
   refine st (v := (Sl a31 xs29 c32)) (rv_assign rfl) ?_
   refine w_end ?_
   refine q_blk ?_
   obtain rfl := Option.some.inj h
   exact ⟨rfl, _, σ33, a22, c23, a31, c32, fr_join ⟨rfl, rfl, trivial⟩, rfl, H.sel' [2, 3, 0] rfl rfl⟩
  ·replace h := bif_f hb16 h
   refine c_seq ?_
   refine rg ?_
   refine st (v := (B (r9.1 == 1))) (rv_eql (a := r9.1) (b := 1) rfl rfl) ?_
   refine st (v := (B (r9.1 == 1))) (rv_assign rfl) ?_
   refine w_end ?_
   refine q_then ?_
   refine cd_cond (r9.1 == 1) rfl (fun hb34 => ?_) (fun hb34 => ?_)
   ·replace h := bif_t hb34 h
    refine c_seq ?_
    refine rg ?_
    refine st (v := (Sl a4 r1.1 c5)) (rv_move rfl) ?_
    refine st (v := (I (r1.1.length : Int))) (rv_len Try.underlying24 rfl) ?_
    refine st (v := (B (decide (0 < (r1.1.length : Int))))) (rv_gtr (a := (r1.1.length : Int)) (b := 0) rfl rfl) ?_
    refine w_end ?_
    refine q_then ?_
    refine cd_cond (decide (0 < (r1.1.length : Int))) rfl (fun hb35 => ?_) (fun hb35 => ?_)
    ·replace h := bif_t hb35 h
     refine rg ?_
     refine st (v := (Sl a4 r1.1 c5)) (rv_move rfl) ?_
     refine st (v := (pt br_0 or_0)) (rv_move rfl) ?_
     refine st (v := (Sl a4 r1.1 c5)) (rv_move rfl) ?_
     refine st (v := (I (r1.1.length : Int))) (rv_len Try.underlying24 rfl) ?_
     obtain ⟨r36, hx37, h'⟩ := bind_some h
     clear h
     have h := h'; clear h'
     have hc38 := c_spec_reader_pick (lor_0 := lor_0) (br_0 := br_0) (or_0 := or_0) (prer_0 := prer_0) (sufr_0 := sufr_0) (ar_0_0 := a12) (cr_0_0 := c13) hx37
     refine st_call (cx_call hc38 (ent_f hc38.fn rfl) hn0 (show Hp S0 σ0 _ ([Ch.bx lor_0 br_0 or_0 [(Sl a12 r9.2.1 c13), (I r9.2.2)] prer_0 sufr_0, Ch.ro 0 (Sl a12 r9.2.1 c13) r9.2.1] ++ [Ch.ro 0 (Sl a12 r9.2.1 c13) r9.2.1, Ch.own n0 n0 (Sl a4 r1.1 c5) r1.1, Ch.ro 0 (Sl a6 r1.2.1 c7) r1.2.1, Ch.ro 0 (Sl ar_0_0 r_0.1 cr_0_0) r_0.1]) from (H.sel' [0, 1, 1, 2, 3, 4] rfl rfl))) wn ?_
     rintro _ σ41 ⟨_, ⟨a39, c40, rfl, rfl⟩, H, -⟩
     replace H : Hp S0 σ0 σ41 [Ch.bx lor_0 br_0 or_0 [(Sl a39 r36.2.1 c40), (I r36.2.2)] prer_0 sufr_0, Ch.ro 0 (Sl a39 r36.2.1 c40) r36.2.1, Ch.ro 0 (Sl a12 r9.2.1 c13) r9.2.1, Ch.own n0 n0 (Sl a4 r1.1 c5) r1.1, Ch.ro 0 (Sl a6 r1.2.1 c7) r1.2.1, Ch.ro 0 (Sl ar_0_0 r_0.1 cr_0_0) r_0.1] := H
     refine st (v := (pt br_0 or_0)) (rv_move rfl) ?_
     obtain ⟨r42, hx43, h'⟩ := bind_some h
     clear h
     have h := h'; clear h'
     have hc44 := c_spec_anyVector (lor_0 := lor_0) (br_0 := br_0) (or_0 := or_0) (prer_0 := prer_0) (sufr_0 := sufr_0) (ar_0_0 := a39) (cr_0_0 := c40) hx43
     refine st_call (cx_call hc44 (ent_f hc44.fn rfl) hn0 (show Hp S0 σ0 _ ([Ch.bx lor_0 br_0 or_0 [(Sl a39 r36.2.1 c40), (I r36.2.2)] prer_0 sufr_0, Ch.ro 0 (Sl a39 r36.2.1 c40) r36.2.1] ++ [Ch.ro 0 (Sl a39 r36.2.1 c40) r36.2.1, Ch.ro 0 (Sl a12 r9.2.1 c13) r9.2.1, Ch.own n0 n0 (Sl a4 r1.1 c5) r1.1, Ch.ro 0 (Sl a6 r1.2.1 c7) r1.2.1, Ch.ro 0 (Sl ar_0_0 r_0.1 cr_0_0) r_0.1]) from (H.sel' [0, 1, 1, 2, 3, 4, 5] rfl rfl))) wn ?_
     rintro _ σ49 ⟨_, ⟨a45, c46, a47, c48, rfl, rfl⟩, H, -⟩
     replace H : Hp S0 σ0 σ49 [Ch.own n0 n0 (Sl a45 r42.1 c46) r42.1, Ch.bx lor_0 br_0 or_0 [(Sl a47 r42.2.1 c48), (I r42.2.2)] prer_0 sufr_0, Ch.ro 0 (Sl a47 r42.2.1 c48) r42.2.1, Ch.ro 0 (Sl a39 r36.2.1 c40) r36.2.1, Ch.ro 0 (Sl a12 r9.2.1 c13) r9.2.1, Ch.own n0 n0 (Sl a4 r1.1 c5) r1.1, Ch.ro 0 (Sl a6 r1.2.1 c7) r1.2.1, Ch.ro 0 (Sl ar_0_0 r_0.1 cr_0_0) r_0.1] := H
     replace H : Hp S0 σ0 σ49 [Ch.own n0 n0 (Sl a45 r42.1 c46) r42.1, Ch.bx lor_0 br_0 or_0 [(Sl a47 r42.2.1 c48), (I r42.2.2)] prer_0 sufr_0, Ch.ro 0 (Sl a47 r42.2.1 c48) r42.2.1, Ch.own n0 n0 (Sl a4 r1.1 c5) r1.1] := H.sel' [0, 1, 2, 5] rfl rfl
     obtain ⟨x50, hx51, h'⟩ := bind_some h
     clear h
     have h := h'; clear h'
     obtain ⟨b53, o54, hi52, -⟩ := (H.own 3 rfl).ix hx51
     refine st (v := (pt b53 o54)) (rv_ix Try.underlying24 ti31 rfl rfl hi52) ?_
     refine st (v := (pt b53 (o54 + 1))) (rv_fieldAddr (off := 1) (ft := 29) Try.underlying31 rfl ti29 rfl rfl) ?_
     obtain ⟨σ55, hw56, H, -⟩ := H.pub 0 rfl (Nat.le_refl _)
     rw [← hw56]; clear hw56
     refine st_exS (ex_store_own (e' := (x50.1, r42.1, x50.2.2)) (vs := [(Sl a45 r42.1 c46)]) (k := 1) H (i := 3) rfl ti29 hx51 hi52 rfl rfl rfl rfl rfl (Nat.le_of_ble_eq_true rfl) (by simp [plain]) (by rintro _ ⟨_, _, rfl, rfl, ⟨_, _, rfl, ⟨_, rfl, hR59⟩, rfl⟩⟩; exact ⟨[(I x50.1)], [(Sl a45 r42.1 c46), (I x50.2.2)], rfl, rfl, ⟨[(Sl a45 r42.1 c46)], [(I x50.2.2)], rfl, ⟨_, rfl, (H.ro 0 rfl)⟩, rfl⟩⟩)) wn ?_
     rintro σ60 ⟨H, -⟩
     have hsl : (Sl a4 r1.1 c5) = (Sl a4 (r1.1.set r36.1.toNat (x50.1, r42.1, x50.2.2)) c5) := sl_len List.length_set.symm
     rw [hsl]; rw [hsl] at H; clear hsl
     refine w_end ?_
     refine q_blk ?_
     obtain rfl := Option.some.inj h
     exact ⟨rfl, _, σ60, a47, c48, a4, c5, fr_join ⟨rfl, rfl, trivial⟩, rfl, H.sel' [2, 3, 0] rfl rfl⟩
    ·replace h := bif_f hb35 h
     refine c_skip ?_
     refine q_blk ?_
     obtain rfl := Option.some.inj h
     exact ⟨rfl, _, σ14, a12, c13, a4, c5, fr_join ⟨rfl, rfl, trivial⟩, rfl, H.sel' [0, 1, 2] rfl rfl⟩
   ·replace h := bif_f hb34 h
    refine c_skip ?_
    refine q_blk ?_
    obtain rfl := Option.some.inj h
    exact ⟨rfl, _, σ14, a12, c13, a4, c5, fr_join ⟨rfl, rfl, trivial⟩, rfl, H.sel' [0, 1, 2] rfl rfl⟩
 ·clear hj
  have h := h'
  clear h' H
  rintro e a w ⟨rfl, ρ, σ61, a62, c63, a64, c65, rfl, rfl, H⟩
  refine q_then ?_
  refine c_seq ?_
  refine rg ?_
  refine st (v := (Sl a64 o15.2 c65)) (rv_move rfl) ?_
  refine st (v := (Sl a64 o15.2 c65)) (rv_assign rfl) ?_
  refine w_end ?_
  refine q_then ?_
  refine c_ret ?_
  obtain rfl := Option.some.inj h
  exact fin_ret (v := (Sl a64 o15.2 c65)) (results_ok Try.results69 (res_tmp (v := (Sl a64 o15.2 c65)) rfl res_nil) rfl) ⟨a64, c65, a62, c63, rfl, rfl⟩ (H.sel' [2, 0, 1] rfl rfl)

theorem c_spec_someK {r_0 : (List UInt8) × Int} {ar_0_0 : Option Addr} {cr_0_0 : Nat} {lor_0 br_0 or_0 : Nat} {prer_0 sufr_0 : List Value} {r : Int × ((List UInt8) × Int)} (h : M.spec_someK r_0 = some r) :
    Cal2 Try.prog 74 [(pt br_0 or_0)] [Ch.bx lor_0 br_0 or_0 [(Sl ar_0_0 r_0.1 cr_0_0), (I r_0.2)] prer_0 sufr_0, Ch.ro 0 (Sl ar_0_0 r_0.1 cr_0_0) r_0.1] (fun n0 v L => ∃ (az1 : Option Addr), ∃ (cz2 : Nat), v = (I r.1) ∧ L = [Ch.bx lor_0 br_0 or_0 [(Sl az1 r.2.1 cz2), (I r.2.2)] prer_0 sufr_0, Ch.ro 0 (Sl az1 r.2.1 cz2) r.2.1]) := by
 refine cal2 (n := 6) Try.func74 rfl rfl rfl rfl ?_
 intro S0 σ0 n0 hn0 H
 unfold M.spec_someK at h
 refine c_seq ?_
 refine rg ?_
 refine st (v := (I 0)) (rv_assign rfl) ?_
 refine w_end ?_
 refine q_then ?_
 refine c_seq ?_
 refine rg ?_
 refine st (v := (pt br_0 or_0)) (rv_move rfl) ?_
 refine st_ex (ex_buildSlice (el := n0) (xs := ([1, 2, 3, 5, 16, 4, 0, 17] : List Int)) (ps := [(0, (I 1)), (1, (I 2)), (2, (I 3)), (3, (I 5)), (4, (I 16)), (5, (I 4)), (6, (I 0)), (7, (I 17))]) (cs := [(I 1), (I 2), (I 3), (I 5), (I 16), (I 4), (I 0), (I 17)]) H hn0 Try.underlying29 ti3 rfl rfl (by kernel_rfl) (.cons (c := [(I 1)]) rfl (.cons (c := [(I 2)]) rfl (.cons (c := [(I 3)]) rfl (.cons (c := [(I 5)]) rfl (.cons (c := [(I 16)]) rfl (.cons (c := [(I 4)]) rfl (.cons (c := [(I 0)]) rfl (.cons (c := [(I 17)]) rfl (.nil))))))))) rfl) wn ?_
 rintro _ σ2 ⟨b1, rfl, H, -⟩
 obtain ⟨σ3, hw4, H, -⟩ := H.pub 0 rfl (Nat.le_refl _)
 rw [← hw4]; clear hw4
 replace H := H.roLow 0 0 rfl (Nat.zero_le _)
 obtain ⟨r5, hx6, h'⟩ := bind_some h
 clear h
 have h := h'; clear h'
 have hc7 := c_spec_reader_one (lor_0 := lor_0) (br_0 := br_0) (or_0 := or_0) (prer_0 := prer_0) (sufr_0 := sufr_0) (ar_0_0 := ar_0_0) (cr_0_0 := cr_0_0) (alist_1 := (some ⟨b1, 0, none⟩)) (clist_1 := 8) hx6
 refine st_call (cx_call hc7 (ent_f hc7.fn rfl) hn0 (show Hp S0 σ0 _ ([Ch.bx lor_0 br_0 or_0 [(Sl ar_0_0 r_0.1 cr_0_0), (I r_0.2)] prer_0 sufr_0, Ch.ro 0 (Sl ar_0_0 r_0.1 cr_0_0) r_0.1, Ch.ro 0 (Sl (some ⟨b1, 0, none⟩) ([1, 2, 3, 5, 16, 4, 0, 17] : List Int) 8) ([1, 2, 3, 5, 16, 4, 0, 17] : List Int)] ++ [Ch.ro 0 (Sl (some ⟨b1, 0, none⟩) ([1, 2, 3, 5, 16, 4, 0, 17] : List Int) 8) ([1, 2, 3, 5, 16, 4, 0, 17] : List Int), Ch.ro n0 (Sl (some ⟨b1, 0, none⟩) ([1, 2, 3, 5, 16, 4, 0, 17] : List Int) 8) ([1, 2, 3, 5, 16, 4, 0, 17] : List Int), Ch.ro 0 (Sl ar_0_0 r_0.1 cr_0_0) r_0.1]) from (H.sel' [2, 3, 0, 0, 1, 3] rfl rfl))) wn ?_
 rintro _ σ10 ⟨_, ⟨a8, c9, rfl, rfl⟩, H, -⟩
 replace H : Hp S0 σ0 σ10 [Ch.bx lor_0 br_0 or_0 [(Sl a8 r5.2.1 c9), (I r5.2.2)] prer_0 sufr_0, Ch.ro 0 (Sl a8 r5.2.1 c9) r5.2.1, Ch.ro 0 (Sl (some ⟨b1, 0, none⟩) ([1, 2, 3, 5, 16, 4, 0, 17] : List Int) 8) ([1, 2, 3, 5, 16, 4, 0, 17] : List Int), Ch.ro n0 (Sl (some ⟨b1, 0, none⟩) ([1, 2, 3, 5, 16, 4, 0, 17] : List Int) 8) ([1, 2, 3, 5, 16, 4, 0, 17] : List Int), Ch.ro 0 (Sl ar_0_0 r_0.1 cr_0_0) r_0.1] := H
 refine st (v := (I r5.1)) (rv_assign rfl) ?_
 refine w_end ?_
 refine q_then ?_
 refine c_ret ?_
 obtain rfl := Option.some.inj h
 exact fin_ret (v := (I r5.1)) (results_ok Try.results74 (res_tmp (v := (I r5.1)) rfl res_nil) rfl) ⟨a8, c9, rfl, rfl⟩ (H.sel' [0, 1] rfl rfl)

theorem c_spec_someVectors {r_0 : (List UInt8) × Int} {n_1 : Int} {ar_0_0 : Option Addr} {cr_0_0 : Nat} {lor_0 br_0 or_0 : Nat} {prer_0 sufr_0 : List Value} {r : (List (List Int)) × ((List UInt8) × Int)} (h : M.spec_someVectors r_0 n_1 = some r) :
    Cal2 Try.prog 107 [(pt br_0 or_0), (I n_1)] [Ch.bx lor_0 br_0 or_0 [(Sl ar_0_0 r_0.1 cr_0_0), (I r_0.2)] prer_0 sufr_0, Ch.ro 0 (Sl ar_0_0 r_0.1 cr_0_0) r_0.1] (fun n0 v L => ∃ (az1 : Option Addr), ∃ (cz2 : Nat), ∃ (az3 : Option Addr), ∃ (cz4 : Nat), v = (Sl az1 r.1 cz2) ∧ L = [Ch.own n0 n0 (Sl az1 r.1 cz2) r.1, Ch.bx lor_0 br_0 or_0 [(Sl az3 r.2.1 cz4), (I r.2.2)] prer_0 sufr_0, Ch.ro 0 (Sl az3 r.2.1 cz4) r.2.1]) := by
 refine cal2 (n := 19) Try.func107 rfl rfl rfl rfl ?_
 intro S0 σ0 n0 hn0 H
 unfold M.spec_someVectors at h
 refine c_seq ?_
 refine rg ?_
 refine st (v := (.slice none 0 0)) (rv_assign rfl) ?_
 refine w_end ?_
 refine q_then ?_
 refine c_seq ?_
 refine rg ?_
 refine st_ex (ex_buildSlice (el := n0) (xs := ([] : List (List Int))) (ps := []) (cs := []) H hn0 Try.underlying23 ti29 rfl rfl (by kernel_rfl) (.nil) rfl) wn ?_
 rintro _ σ2 ⟨b1, rfl, H, -⟩
 refine st (v := (Sl (some ⟨b1, 0, none⟩) ([] : List (List Int)) 0)) (rv_assign rfl) ?_
 refine w_end ?_
 refine q_then ?_
 refine c_seq ?_
 refine c_seq ?_
 refine rg ?_
 refine st (v := (I 0)) (rv_assign rfl) ?_
 refine w_end ?_
 refine q_then ?_
 obtain ⟨o3, hj, h'⟩ := bind_some h
 clear h
 refine c_cut (fun e a w => e = .normal ∧ ∃ (ρ : Nat → Value) (σ : St) (aj1 : Option Addr) (cj2 : Nat) (aj3 : Option Addr) (cj4 : Nat), a = fr 19 (updL ρ [(0, (pt br_0 or_0)), (5, (Sl aj3 o3.2 cj4))]) ∧ w = σ.w ∧ Hp S0 σ0 σ [Ch.bx lor_0 br_0 or_0 [(Sl aj1 o3.1.1 cj2), (I o3.1.2)] prer_0 sufr_0, Ch.ro 0 (Sl aj1 o3.1.1 cj2) o3.1.1, Ch.own n0 n0 (Sl aj3 o3.2 cj4) o3.2]) ?_ ?_
 ·clear h'
  rename _ = some o3 => h
  refine c_blk ?_
  refine wp_loopM _ h (fun s4 a w => ∃ (ρ : Nat → Value) (σ : St) (aj1 : Option Addr) (cj2 : Nat) (aj3 : Option Addr) (cj4 : Nat), a = fr 19 (updL ρ [(0, (pt br_0 or_0)), (1, (I n_1)), (5, (Sl aj3 s4.2.1 cj4)), (6, (I s4.2.2))]) ∧ w = σ.w ∧ Hp S0 σ0 σ [Ch.bx lor_0 br_0 or_0 [(Sl aj1 s4.1.1 cj2), (I s4.1.2)] prer_0 sufr_0, Ch.ro 0 (Sl aj1 s4.1.1 cj2) s4.1.1, Ch.own n0 n0 (Sl aj3 s4.2.1 cj4) s4.2.1]) ⟨_, σ2, ar_0_0, cr_0_0, (some ⟨b1, 0, none⟩), 0, fr_join ⟨rfl, rfl, rfl, rfl, trivial⟩, rfl, H.sel' [1, 2, 0] rfl rfl⟩ ?_
  clear h H
  rintro s4 a w o ⟨ρ, σ5, a6, c7, a8, c9, rfl, rfl, H⟩ h hres
  refine c_seq ?_
  refine c_seq ?_
  refine rg ?_
  refine st (v := (I s4.2.2)) (rv_move rfl) ?_
  refine st (v := (I n_1)) (rv_move rfl) ?_
  refine st (v := (B (decide (s4.2.2 < n_1)))) (rv_lss (a := s4.2.2) (b := n_1) rfl rfl) ?_
  refine w_end ?_
  refine q_then ?_
  refine cd_cond (decide (s4.2.2 < n_1)) rfl (fun hb10 => ?_) (fun hb10 => ?_)
  ·replace h := bif_t hb10 h
   refine c_skip ?_
   refine q_then ?_
   refine c_seq ?_
   refine c_blk ?_
   refine rg ?_
   refine st (v := (Sl a8 s4.2.1 c9)) (rv_move rfl) ?_
   refine st (v := (pt br_0 or_0)) (rv_move rfl) ?_
   obtain ⟨r11, hx12, h'⟩ := bind_some h
   clear h
   have h := h'; clear h'
   have hc13 := c_spec_someVector (lor_0 := lor_0) (br_0 := br_0) (or_0 := or_0) (prer_0 := prer_0) (sufr_0 := sufr_0) (ar_0_0 := a6) (cr_0_0 := c7) hx12
   refine st_call (cx_call hc13 (ent_f hc13.fn rfl) hn0 (show Hp S0 σ0 _ ([Ch.bx lor_0 br_0 or_0 [(Sl a6 s4.1.1 c7), (I s4.1.2)] prer_0 sufr_0, Ch.ro 0 (Sl a6 s4.1.1 c7) s4.1.1] ++ [Ch.ro 0 (Sl a6 s4.1.1 c7) s4.1.1, Ch.own n0 n0 (Sl a8 s4.2.1 c9) s4.2.1]) from (H.sel' [0, 1, 1, 2] rfl rfl))) wn ?_
   rintro _ σ18 ⟨_, ⟨a14, c15, a16, c17, rfl, rfl⟩, H, -⟩
   replace H : Hp S0 σ0 σ18 [Ch.own n0 n0 (Sl a14 r11.1 c15) r11.1, Ch.bx lor_0 br_0 or_0 [(Sl a16 r11.2.1 c17), (I r11.2.2)] prer_0 sufr_0, Ch.ro 0 (Sl a16 r11.2.1 c17) r11.2.1, Ch.ro 0 (Sl a6 s4.1.1 c7) s4.1.1, Ch.own n0 n0 (Sl a8 s4.2.1 c9) s4.2.1] := H
   obtain ⟨σ19, hw20, H, -⟩ := H.pub 0 rfl (Nat.le_refl _)
   rw [← hw20]; clear hw20
   refine st_ex (ex_buildSlice (el := n0) (xs := ([r11.1] : List (List Int))) (ps := [(0, (Sl a14 r11.1 c15))]) (cs := [(Sl a14 r11.1 c15)]) H hn0 Try.underlying23 ti29 rfl rfl (by kernel_rfl) (.cons (c := [(Sl a14 r11.1 c15)]) ⟨_, rfl, (H.ro 0 rfl)⟩ (.nil)) rfl) wn ?_
   rintro _ σ22 ⟨b21, rfl, H, -⟩
   obtain ⟨xs23, hx24, h'⟩ := bind_some h
   clear h
   have h := h'; clear h'
   refine st_ex (ex_append H (i := 5) rfl Try.underlying23 Try.underlying23 ti29 rfl rfl (by decide) (H.own 0 rfl).rd hx24 hn0 rfl rfl) wn ?_
   rintro _ σ27 ⟨a25, c26, rfl, H, -⟩
   refine st (v := (Sl a25 xs23 c26)) (rv_assign rfl) ?_
   refine w_end ?_
   refine q_blk ?_
   refine q_then ?_
   refine rg ?_
   refine st (v := (I s4.2.2)) (rv_move rfl) ?_
   refine st (v := (I (w64 (s4.2.2 + 1)))) (rv_add (a := s4.2.2) (b := 1) rfl rfl) ?_
   refine st (v := (I (w64 (s4.2.2 + 1)))) (rv_assign rfl) ?_
   refine w_end ?_
   refine q_then ?_
   obtain rfl := Option.some.inj h
   exact ⟨_, rfl, _, σ27, a16, c17, a25, c26, fr_join ⟨rfl, rfl, rfl, rfl, trivial⟩, rfl, H.sel' [3, 4, 0] rfl rfl⟩
  ·replace h := bif_f hb10 h
   refine c_exit ?_
   refine q_then_x ?_
   refine q_then_x ?_
   refine q_blk_hit ?_
   obtain rfl := Option.some.inj h
   obtain rfl := hres _ rfl
   exact ⟨rfl, _, σ5, a6, c7, a8, c9, fr_join ⟨rfl, rfl, trivial⟩, rfl, H.sel' [0, 1, 2] rfl rfl⟩
 ·clear hj
  have h := h'
  clear h' H
  rintro e a w ⟨rfl, ρ, σ28, a29, c30, a31, c32, rfl, rfl, H⟩
  refine q_then ?_
  refine c_seq ?_
  refine rg ?_
  refine st (v := (Sl a31 o3.2 c32)) (rv_move rfl) ?_
  refine st (v := (Sl a31 o3.2 c32)) (rv_assign rfl) ?_
  refine w_end ?_
  refine q_then ?_
  refine c_ret ?_
  obtain rfl := Option.some.inj h
  exact fin_ret (v := (Sl a31 o3.2 c32)) (results_ok Try.results107 (res_tmp (v := (Sl a31 o3.2 c32)) rfl res_nil) rfl) ⟨a31, c32, a29, c30, rfl, rfl⟩ (H.sel' [2, 0, 1] rfl rfl)

theorem c_spec_anyCentres {r_0 : (List UInt8) × Int} {ar_0_0 : Option Addr} {cr_0_0 : Nat} {lor_0 br_0 or_0 : Nat} {prer_0 sufr_0 : List Value} {r : (List (List Int)) × ((List UInt8) × Int)} (h : M.spec_anyCentres r_0 = some r) :
    Cal2 Try.prog 83 [(pt br_0 or_0)] [Ch.bx lor_0 br_0 or_0 [(Sl ar_0_0 r_0.1 cr_0_0), (I r_0.2)] prer_0 sufr_0, Ch.ro 0 (Sl ar_0_0 r_0.1 cr_0_0) r_0.1] (fun n0 v L => ∃ (az1 : Option Addr), ∃ (cz2 : Nat), ∃ (az3 : Option Addr), ∃ (cz4 : Nat), v = (Sl az1 r.1 cz2) ∧ L = [Ch.own n0 n0 (Sl az1 r.1 cz2) r.1, Ch.bx lor_0 br_0 or_0 [(Sl az3 r.2.1 cz4), (I r.2.2)] prer_0 sufr_0, Ch.ro 0 (Sl az3 r.2.1 cz4) r.2.1]) := by
 refine cal2 (n := 26) Try.func83 rfl rfl rfl rfl ?_
 intro S0 σ0 n0 hn0 H
 unfold M.spec_anyCentres at h
 refine c_seq ?_
 refine rg ?_
 refine st (v := (.slice none 0 0)) (rv_assign rfl) ?_
 refine w_end ?_
 refine q_then ?_
 refine c_seq ?_
 refine rg ?_
 refine st (v := (pt br_0 or_0)) (rv_move rfl) ?_
 refine st (v := (pt br_0 or_0)) (rv_move rfl) ?_
 refine st_ex (ex_buildSlice (el := n0) (xs := ([2, 3, 4, 1, 0, 5, 3] : List Int)) (ps := [(0, (I 2)), (1, (I 3)), (2, (I 4)), (3, (I 1)), (4, (I 0)), (5, (I 5)), (6, (I 3))]) (cs := [(I 2), (I 3), (I 4), (I 1), (I 0), (I 5), (I 3)]) H hn0 Try.underlying29 ti3 rfl rfl (by kernel_rfl) (.cons (c := [(I 2)]) rfl (.cons (c := [(I 3)]) rfl (.cons (c := [(I 4)]) rfl (.cons (c := [(I 1)]) rfl (.cons (c := [(I 0)]) rfl (.cons (c := [(I 5)]) rfl (.cons (c := [(I 3)]) rfl (.nil)))))))) rfl) wn ?_
 rintro _ σ2 ⟨b1, rfl, H, -⟩
 obtain ⟨σ3, hw4, H, -⟩ := H.pub 0 rfl (Nat.le_refl _)
 rw [← hw4]; clear hw4
 replace H := H.roLow 0 0 rfl (Nat.zero_le _)
 obtain ⟨r5, hx6, h'⟩ := bind_some h
 clear h
 have h := h'; clear h'
 have hc7 := c_spec_reader_one (lor_0 := lor_0) (br_0 := br_0) (or_0 := or_0) (prer_0 := prer_0) (sufr_0 := sufr_0) (ar_0_0 := ar_0_0) (cr_0_0 := cr_0_0) (alist_1 := (some ⟨b1, 0, none⟩)) (clist_1 := 7) hx6
 refine st_call (cx_call hc7 (ent_f hc7.fn rfl) hn0 (show Hp S0 σ0 _ ([Ch.bx lor_0 br_0 or_0 [(Sl ar_0_0 r_0.1 cr_0_0), (I r_0.2)] prer_0 sufr_0, Ch.ro 0 (Sl ar_0_0 r_0.1 cr_0_0) r_0.1, Ch.ro 0 (Sl (some ⟨b1, 0, none⟩) ([2, 3, 4, 1, 0, 5, 3] : List Int) 7) ([2, 3, 4, 1, 0, 5, 3] : List Int)] ++ [Ch.ro 0 (Sl (some ⟨b1, 0, none⟩) ([2, 3, 4, 1, 0, 5, 3] : List Int) 7) ([2, 3, 4, 1, 0, 5, 3] : List Int), Ch.ro n0 (Sl (some ⟨b1, 0, none⟩) ([2, 3, 4, 1, 0, 5, 3] : List Int) 7) ([2, 3, 4, 1, 0, 5, 3] : List Int), Ch.ro 0 (Sl ar_0_0 r_0.1 cr_0_0) r_0.1]) from (H.sel' [2, 3, 0, 0, 1, 3] rfl rfl))) wn ?_
 rintro _ σ10 ⟨_, ⟨a8, c9, rfl, rfl⟩, H, -⟩
 replace H : Hp S0 σ0 σ10 [Ch.bx lor_0 br_0 or_0 [(Sl a8 r5.2.1 c9), (I r5.2.2)] prer_0 sufr_0, Ch.ro 0 (Sl a8 r5.2.1 c9) r5.2.1, Ch.ro 0 (Sl (some ⟨b1, 0, none⟩) ([2, 3, 4, 1, 0, 5, 3] : List Int) 7) ([2, 3, 4, 1, 0, 5, 3] : List Int), Ch.ro n0 (Sl (some ⟨b1, 0, none⟩) ([2, 3, 4, 1, 0, 5, 3] : List Int) 7) ([2, 3, 4, 1, 0, 5, 3] : List Int), Ch.ro 0 (Sl ar_0_0 r_0.1 cr_0_0) r_0.1] := H
 obtain ⟨r11, hx12, h'⟩ := bind_some h
 clear h
 have h := h'; clear h'
 have hc13 := c_spec_someVectors (lor_0 := lor_0) (br_0 := br_0) (or_0 := or_0) (prer_0 := prer_0) (sufr_0 := sufr_0) (ar_0_0 := a8) (cr_0_0 := c9) hx12
 refine st_call (cx_call hc13 (ent_f hc13.fn rfl) hn0 (show Hp S0 σ0 _ ([Ch.bx lor_0 br_0 or_0 [(Sl a8 r5.2.1 c9), (I r5.2.2)] prer_0 sufr_0, Ch.ro 0 (Sl a8 r5.2.1 c9) r5.2.1] ++ [Ch.ro 0 (Sl a8 r5.2.1 c9) r5.2.1, Ch.ro 0 (Sl (some ⟨b1, 0, none⟩) ([2, 3, 4, 1, 0, 5, 3] : List Int) 7) ([2, 3, 4, 1, 0, 5, 3] : List Int), Ch.ro n0 (Sl (some ⟨b1, 0, none⟩) ([2, 3, 4, 1, 0, 5, 3] : List Int) 7) ([2, 3, 4, 1, 0, 5, 3] : List Int), Ch.ro 0 (Sl ar_0_0 r_0.1 cr_0_0) r_0.1]) from (H.sel' [0, 1, 1, 2, 3, 4] rfl rfl))) wn ?_
 rintro _ σ18 ⟨_, ⟨a14, c15, a16, c17, rfl, rfl⟩, H, -⟩
 replace H : Hp S0 σ0 σ18 [Ch.own n0 n0 (Sl a14 r11.1 c15) r11.1, Ch.bx lor_0 br_0 or_0 [(Sl a16 r11.2.1 c17), (I r11.2.2)] prer_0 sufr_0, Ch.ro 0 (Sl a16 r11.2.1 c17) r11.2.1, Ch.ro 0 (Sl a8 r5.2.1 c9) r5.2.1, Ch.ro 0 (Sl (some ⟨b1, 0, none⟩) ([2, 3, 4, 1, 0, 5, 3] : List Int) 7) ([2, 3, 4, 1, 0, 5, 3] : List Int), Ch.ro n0 (Sl (some ⟨b1, 0, none⟩) ([2, 3, 4, 1, 0, 5, 3] : List Int) 7) ([2, 3, 4, 1, 0, 5, 3] : List Int), Ch.ro 0 (Sl ar_0_0 r_0.1 cr_0_0) r_0.1] := H
 refine st (v := (Sl a14 r11.1 c15)) (rv_assign rfl) ?_
 refine w_end ?_
 refine q_then ?_
 refine c_seq ?_
 refine c_seq ?_
 obtain ⟨o19, hj, h'⟩ := bind_some h
 clear h
 refine c_cut (fun e a w => e = .normal ∧ ∃ (ρ : Nat → Value) (σ : St) (aj1 : Option Addr) (cj2 : Nat), a = fr 26 (updL ρ [(0, (pt br_0 or_0)), (3, (Sl a14 r11.1 c15)), (16, (B o19.2))]) ∧ w = σ.w ∧ Hp S0 σ0 σ [Ch.bx lor_0 br_0 or_0 [(Sl aj1 o19.1.1 cj2), (I o19.1.2)] prer_0 sufr_0, Ch.ro 0 (Sl aj1 o19.1.1 cj2) o19.1.1, Ch.own n0 n0 (Sl a14 r11.1 c15) r11.1]) ?_ ?_
 ·clear h'
  rename _ = some o19 => h
  refine rg ?_
  refine st (v := (Sl a14 r11.1 c15)) (rv_move rfl) ?_
  refine st (v := (I (r11.1.length : Int))) (rv_len Try.underlying23 rfl) ?_
  refine st (v := (B (decide (0 < (r11.1.length : Int))))) (rv_gtr (a := (r11.1.length : Int)) (b := 0) rfl rfl) ?_
  refine st (v := (B (decide (0 < (r11.1.length : Int))))) (rv_move rfl) ?_
  rcases Bool.eq_false_or_eq_true (decide (0 < (r11.1.length : Int))) with hb20 | hb20
  ·replace h := bif_t hb20 h
   refine st_g (v := (pt br_0 or_0)) (congrArg some hb20) (rv_move rfl) ?_
   obtain ⟨r21, hx22, h'⟩ := bind_some h
   clear h
   have h := h'; clear h'
   have hc23 := c_spec_reader_pick (lor_0 := lor_0) (br_0 := br_0) (or_0 := or_0) (prer_0 := prer_0) (sufr_0 := sufr_0) (ar_0_0 := a16) (cr_0_0 := c17) hx22
   refine st_call (cx_call hc23 (ent_f hc23.fn rfl) hn0 (show Hp S0 σ0 _ ([Ch.bx lor_0 br_0 or_0 [(Sl a16 r11.2.1 c17), (I r11.2.2)] prer_0 sufr_0, Ch.ro 0 (Sl a16 r11.2.1 c17) r11.2.1] ++ [Ch.own n0 n0 (Sl a14 r11.1 c15) r11.1, Ch.ro 0 (Sl a16 r11.2.1 c17) r11.2.1, Ch.ro 0 (Sl a8 r5.2.1 c9) r5.2.1, Ch.ro 0 (Sl (some ⟨b1, 0, none⟩) ([2, 3, 4, 1, 0, 5, 3] : List Int) 7) ([2, 3, 4, 1, 0, 5, 3] : List Int), Ch.ro n0 (Sl (some ⟨b1, 0, none⟩) ([2, 3, 4, 1, 0, 5, 3] : List Int) 7) ([2, 3, 4, 1, 0, 5, 3] : List Int), Ch.ro 0 (Sl ar_0_0 r_0.1 cr_0_0) r_0.1]) from (H.sel' [1, 2, 0, 2, 3, 4, 5, 6] rfl rfl))) (wanted_yes rfl (by exact (congrArg some hb20))) ?_
   rintro _ σ26 ⟨_, ⟨a24, c25, rfl, rfl⟩, H, -⟩
   replace H : Hp S0 σ0 σ26 [Ch.bx lor_0 br_0 or_0 [(Sl a24 r21.2.1 c25), (I r21.2.2)] prer_0 sufr_0, Ch.ro 0 (Sl a24 r21.2.1 c25) r21.2.1, Ch.own n0 n0 (Sl a14 r11.1 c15) r11.1, Ch.ro 0 (Sl a16 r11.2.1 c17) r11.2.1, Ch.ro 0 (Sl a8 r5.2.1 c9) r5.2.1, Ch.ro 0 (Sl (some ⟨b1, 0, none⟩) ([2, 3, 4, 1, 0, 5, 3] : List Int) 7) ([2, 3, 4, 1, 0, 5, 3] : List Int), Ch.ro n0 (Sl (some ⟨b1, 0, none⟩) ([2, 3, 4, 1, 0, 5, 3] : List Int) 7) ([2, 3, 4, 1, 0, 5, 3] : List Int), Ch.ro 0 (Sl ar_0_0 r_0.1 cr_0_0) r_0.1] := H
   replace H : Hp S0 σ0 σ26 [Ch.bx lor_0 br_0 or_0 [(Sl a24 r21.2.1 c25), (I r21.2.2)] prer_0 sufr_0, Ch.ro 0 (Sl a24 r21.2.1 c25) r21.2.1, Ch.own n0 n0 (Sl a14 r11.1 c15) r11.1] := H.sel' [0, 1, 2] rfl rfl
   refine st_g (v := (B (r21.1 == 0))) (congrArg some hb20) (rv_eql (a := r21.1) (b := 0) rfl rfl) ?_
   refine st (v := (B (r21.1 == 0))) (rv_pick_t (congrArg B hb20) rfl) ?_
   refine w_end ?_
   obtain rfl := Option.some.inj h
   exact ⟨rfl, _, σ26, a24, c25, fr_join ⟨rfl, rfl, rfl, trivial⟩, rfl, H.sel' [0, 1, 2] rfl rfl⟩
  ·replace h := bif_f hb20 h
   refine st_skip (congrArg some hb20) ?_
   refine st_skip (congrArg some hb20) ?_
   refine st_skip (congrArg some hb20) ?_
   refine st (v := (B false)) (rv_pick_f (congrArg B hb20) rfl) ?_
   refine w_end ?_
   obtain rfl := Option.some.inj h
   exact ⟨rfl, _, σ18, a16, c17, fr_join ⟨rfl, rfl, rfl, trivial⟩, rfl, H.sel' [1, 2, 0] rfl rfl⟩
 ·clear hj
  have h := h'
  clear h' H
  rintro e a w ⟨rfl, ρ, σ27, a28, c29, rfl, rfl, H⟩
  refine q_then ?_
  obtain ⟨o30, hj, h'⟩ := bind_some h
  clear h
  refine c_cut (fun e a w => e = .normal ∧ ∃ (ρ : Nat → Value) (σ : St) (aj1 : Option Addr) (cj2 : Nat), a = fr 26 (updL ρ [(0, (pt br_0 or_0)), (3, (Sl a14 o30.2 c15))]) ∧ w = σ.w ∧ Hp S0 σ0 σ [Ch.bx lor_0 br_0 or_0 [(Sl aj1 o30.1.1 cj2), (I o30.1.2)] prer_0 sufr_0, Ch.ro 0 (Sl aj1 o30.1.1 cj2) o30.1.1, Ch.own n0 n0 (Sl a14 o30.2 c15) o30.2] ∧ o30.2.length = r11.1.length) ?_ ?_
  ·clear h'
   rename _ = some o30 => h
   refine cd_cond o19.2 rfl (fun hb31 => ?_) (fun hb31 => ?_)
   ·replace h := bif_t hb31 h
    refine rg ?_
    refine st (v := (Sl a14 r11.1 c15)) (rv_move rfl) ?_
    refine st (v := (pt br_0 or_0)) (rv_move rfl) ?_
    refine st (v := (Sl a14 r11.1 c15)) (rv_move rfl) ?_
    refine st (v := (I (r11.1.length : Int))) (rv_len Try.underlying23 rfl) ?_
    obtain ⟨r32, hx33, h'⟩ := bind_some h
    clear h
    have h := h'; clear h'
    have hc34 := c_spec_reader_pick (lor_0 := lor_0) (br_0 := br_0) (or_0 := or_0) (prer_0 := prer_0) (sufr_0 := sufr_0) (ar_0_0 := a28) (cr_0_0 := c29) hx33
    refine st_call (cx_call hc34 (ent_f hc34.fn rfl) hn0 (show Hp S0 σ0 _ ([Ch.bx lor_0 br_0 or_0 [(Sl a28 o19.1.1 c29), (I o19.1.2)] prer_0 sufr_0, Ch.ro 0 (Sl a28 o19.1.1 c29) o19.1.1] ++ [Ch.ro 0 (Sl a28 o19.1.1 c29) o19.1.1, Ch.own n0 n0 (Sl a14 r11.1 c15) r11.1]) from (H.sel' [0, 1, 1, 2] rfl rfl))) wn ?_
    rintro _ σ37 ⟨_, ⟨a35, c36, rfl, rfl⟩, H, -⟩
    replace H : Hp S0 σ0 σ37 [Ch.bx lor_0 br_0 or_0 [(Sl a35 r32.2.1 c36), (I r32.2.2)] prer_0 sufr_0, Ch.ro 0 (Sl a35 r32.2.1 c36) r32.2.1, Ch.ro 0 (Sl a28 o19.1.1 c29) o19.1.1, Ch.own n0 n0 (Sl a14 r11.1 c15) r11.1] := H
    refine st (v := (pt br_0 or_0)) (rv_move rfl) ?_
    obtain ⟨r38, hx39, h'⟩ := bind_some h
    clear h
    have h := h'; clear h'
    have hc40 := c_spec_anyVector (lor_0 := lor_0) (br_0 := br_0) (or_0 := or_0) (prer_0 := prer_0) (sufr_0 := sufr_0) (ar_0_0 := a35) (cr_0_0 := c36) hx39
    refine st_call (cx_call hc40 (ent_f hc40.fn rfl) hn0 (show Hp S0 σ0 _ ([Ch.bx lor_0 br_0 or_0 [(Sl a35 r32.2.1 c36), (I r32.2.2)] prer_0 sufr_0, Ch.ro 0 (Sl a35 r32.2.1 c36) r32.2.1] ++ [Ch.ro 0 (Sl a35 r32.2.1 c36) r32.2.1, Ch.ro 0 (Sl a28 o19.1.1 c29) o19.1.1, Ch.own n0 n0 (Sl a14 r11.1 c15) r11.1]) from (H.sel' [0, 1, 1, 2, 3] rfl rfl))) wn ?_
    rintro _ σ45 ⟨_, ⟨a41, c42, a43, c44, rfl, rfl⟩, H, -⟩
    replace H : Hp S0 σ0 σ45 [Ch.own n0 n0 (Sl a41 r38.1 c42) r38.1, Ch.bx lor_0 br_0 or_0 [(Sl a43 r38.2.1 c44), (I r38.2.2)] prer_0 sufr_0, Ch.ro 0 (Sl a43 r38.2.1 c44) r38.2.1, Ch.ro 0 (Sl a35 r32.2.1 c36) r32.2.1, Ch.ro 0 (Sl a28 o19.1.1 c29) o19.1.1, Ch.own n0 n0 (Sl a14 r11.1 c15) r11.1] := H
    obtain ⟨x46, hx47, h'⟩ := bind_some h
    clear h
    have h := h'; clear h'
    obtain ⟨b49, o50, hi48, -⟩ := (H.own 5 rfl).ix hx47
    refine st (v := (pt b49 o50)) (rv_ix Try.underlying23 ti29 rfl rfl hi48) ?_
    obtain ⟨σ51, hw52, H, -⟩ := H.pub 0 rfl (Nat.le_refl _)
    rw [← hw52]; clear hw52
    refine st_exS (ex_store_own (e' := r38.1) (vs := [(Sl a41 r38.1 c42)]) (k := 0) H (i := 5) rfl ti29 hx47 hi48 rfl rfl rfl rfl rfl (Nat.le_of_ble_eq_true rfl) (by simp [plain]) (by rintro _ ⟨_, rfl, hR55⟩; exact ⟨_, rfl, (H.ro 0 rfl)⟩)) wn ?_
    rintro σ56 ⟨H, -⟩
    have hsl : (Sl a14 r11.1 c15) = (Sl a14 (r11.1.set r32.1.toNat r38.1) c15) := sl_len List.length_set.symm
    rw [hsl]; rw [hsl] at H; clear hsl
    refine w_end ?_
    obtain rfl := Option.some.inj h
    exact ⟨rfl, _, σ56, a43, c44, fr_join ⟨rfl, rfl, trivial⟩, rfl, H.sel' [2, 3, 0] rfl rfl, List.length_set⟩
   ·replace h := bif_f hb31 h
    refine c_skip ?_
    obtain rfl := Option.some.inj h
    exact ⟨rfl, _, σ27, a28, c29, fr_join ⟨rfl, rfl, trivial⟩, rfl, H.sel' [0, 1, 2] rfl rfl, rfl⟩
  ·clear hj
   have h := h'
   clear h' H
   rintro e a w ⟨rfl, ρ, σ57, a58, c59, rfl, rfl, H, hn60⟩
   refine q_then ?_
   refine c_seq ?_
   refine rg ?_
   refine st (v := (Sl a14 o30.2 c15)) (rv_move rfl) ?_
   refine st (v := (Sl a14 o30.2 c15)) (rv_assign rfl) ?_
   refine w_end ?_
   refine q_then ?_
   refine c_ret ?_
   obtain rfl := Option.some.inj h
   exact fin_ret (v := (Sl a14 o30.2 c15)) (results_ok Try.results83 (res_tmp (v := (Sl a14 o30.2 c15)) rfl res_nil) rfl) ⟨a14, c15, a58, c59, rfl, rfl⟩ (H.sel' [2, 0, 1] rfl rfl)

theorem c_spec_DrawProbeNearest {code_0 : List UInt8} {acode_0 : Option Addr} {ccode_0 : Nat} {r : (List (List Int)) × (List (Int × (List Int) × Int)) × (List Int) × Int × Int} (h : M.spec_DrawProbeNearest code_0 = some r) :
    Cal2 Try.prog 63 [(Sl acode_0 code_0 ccode_0)] [Ch.ro 0 (Sl acode_0 code_0 ccode_0) code_0] (fun n0 v L => ∃ (az1 : Option Addr), ∃ (cz2 : Nat), ∃ (az3 : Option Addr), ∃ (cz4 : Nat), ∃ (az5 : Option Addr), ∃ (cz6 : Nat), v = (.tuple #[(Sl az1 r.1 cz2), (Sl az3 r.2.1 cz4), (Sl az5 r.2.2.1 cz6), (I r.2.2.2.1), (I r.2.2.2.2)]) ∧ L = [Ch.own n0 n0 (Sl az1 r.1 cz2) r.1, Ch.own n0 n0 (Sl az3 r.2.1 cz4) r.2.1, Ch.own n0 n0 (Sl az5 r.2.2.1 cz6) r.2.2.1]) := by
 refine cal2 (n := 29) Try.func63 rfl rfl rfl rfl ?_
 intro S0 σ0 n0 hn0 H
 unfold M.spec_DrawProbeNearest at h
 refine c_seq ?_
 refine rg ?_
 refine st (v := (.slice none 0 0)) (rv_assign rfl) ?_
 refine st (v := (.slice none 0 0)) (rv_assign rfl) ?_
 refine st (v := (.slice none 0 0)) (rv_assign rfl) ?_
 refine st (v := (I 0)) (rv_assign rfl) ?_
 refine st (v := (I 0)) (rv_assign rfl) ?_
 refine w_end ?_
 refine q_then ?_
 refine c_seq ?_
 refine rg ?_
 refine st (v := (Sl acode_0 code_0 ccode_0)) (rv_move rfl) ?_
 obtain ⟨r1, hx2, h'⟩ := bind_some h
 clear h
 have h := h'; clear h'
 have hc3 := c_spec_newReader (acode_0 := acode_0) (ccode_0 := ccode_0) hx2
 refine st_call (cx_call hc3 (ent_f hc3.fn rfl) hn0 (show Hp S0 σ0 _ ([Ch.ro 0 (Sl acode_0 code_0 ccode_0) code_0] ++ [Ch.ro 0 (Sl acode_0 code_0 ccode_0) code_0]) from (H.sel' [0, 0] rfl rfl))) wn ?_
 rintro _ σ7 ⟨_, ⟨b4, a5, c6, rfl, rfl⟩, H, -⟩
 replace H : Hp S0 σ0 σ7 [Ch.bx n0 b4 0 [(Sl a5 r1.1 c6), (I r1.2)] [] [], Ch.ro 0 (Sl a5 r1.1 c6) r1.1, Ch.ro 0 (Sl acode_0 code_0 ccode_0) code_0] := H
 refine st (v := (pt b4 0)) (rv_assign rfl) ?_
 refine w_end ?_
 refine q_then ?_
 refine c_seq ?_
 refine rg ?_
 refine st (v := (pt b4 0)) (rv_move rfl) ?_
 obtain ⟨r8, hx9, h'⟩ := bind_some h
 clear h
 have h := h'; clear h'
 have hc10 := c_spec_anyCentres (lor_0 := n0) (br_0 := b4) (or_0 := 0) (prer_0 := []) (sufr_0 := []) (ar_0_0 := a5) (cr_0_0 := c6) hx9
 refine st_call (cx_call hc10 (ent_f hc10.fn rfl) hn0 (show Hp S0 σ0 _ ([Ch.bx n0 b4 0 [(Sl a5 r1.1 c6), (I r1.2)] [] [], Ch.ro 0 (Sl a5 r1.1 c6) r1.1] ++ [Ch.ro 0 (Sl a5 r1.1 c6) r1.1, Ch.ro 0 (Sl acode_0 code_0 ccode_0) code_0]) from (H.sel' [0, 1, 1, 2] rfl rfl))) wn ?_
 rintro _ σ15 ⟨_, ⟨a11, c12, a13, c14, rfl, rfl⟩, H, -⟩
 replace H : Hp S0 σ0 σ15 [Ch.own n0 n0 (Sl a11 r8.1 c12) r8.1, Ch.bx n0 b4 0 [(Sl a13 r8.2.1 c14), (I r8.2.2)] [] [], Ch.ro 0 (Sl a13 r8.2.1 c14) r8.2.1, Ch.ro 0 (Sl a5 r1.1 c6) r1.1, Ch.ro 0 (Sl acode_0 code_0 ccode_0) code_0] := H
 refine st (v := (Sl a11 r8.1 c12)) (rv_assign rfl) ?_
 refine w_end ?_
 refine q_then ?_
 refine c_seq ?_
 refine rg ?_
 refine st (v := (pt b4 0)) (rv_move rfl) ?_
 obtain ⟨r16, hx17, h'⟩ := bind_some h
 clear h
 have h := h'; clear h'
 have hc18 := c_spec_anyStore (lor_0 := n0) (br_0 := b4) (or_0 := 0) (prer_0 := []) (sufr_0 := []) (ar_0_0 := a13) (cr_0_0 := c14) hx17
 refine st_call (cx_call hc18 (ent_f hc18.fn rfl) hn0 (show Hp S0 σ0 _ ([Ch.bx n0 b4 0 [(Sl a13 r8.2.1 c14), (I r8.2.2)] [] [], Ch.ro 0 (Sl a13 r8.2.1 c14) r8.2.1] ++ [Ch.own n0 n0 (Sl a11 r8.1 c12) r8.1, Ch.ro 0 (Sl a13 r8.2.1 c14) r8.2.1, Ch.ro 0 (Sl a5 r1.1 c6) r1.1, Ch.ro 0 (Sl acode_0 code_0 ccode_0) code_0]) from (H.sel' [1, 2, 0, 2, 3, 4] rfl rfl))) wn ?_
 rintro _ σ23 ⟨_, ⟨a19, c20, a21, c22, rfl, rfl⟩, H, -⟩
 replace H : Hp S0 σ0 σ23 [Ch.own n0 n0 (Sl a19 r16.1 c20) r16.1, Ch.bx n0 b4 0 [(Sl a21 r16.2.1 c22), (I r16.2.2)] [] [], Ch.ro 0 (Sl a21 r16.2.1 c22) r16.2.1, Ch.own n0 n0 (Sl a11 r8.1 c12) r8.1, Ch.ro 0 (Sl a13 r8.2.1 c14) r8.2.1, Ch.ro 0 (Sl a5 r1.1 c6) r1.1, Ch.ro 0 (Sl acode_0 code_0 ccode_0) code_0] := H
 refine st (v := (Sl a19 r16.1 c20)) (rv_assign rfl) ?_
 refine w_end ?_
 refine q_then ?_
 refine c_seq ?_
 refine rg ?_
 refine st (v := (pt b4 0)) (rv_move rfl) ?_
 obtain ⟨r24, hx25, h'⟩ := bind_some h
 clear h
 have h := h'; clear h'
 have hc26 := c_spec_anyVector (lor_0 := n0) (br_0 := b4) (or_0 := 0) (prer_0 := []) (sufr_0 := []) (ar_0_0 := a21) (cr_0_0 := c22) hx25
 refine st_call (cx_call hc26 (ent_f hc26.fn rfl) hn0 (show Hp S0 σ0 _ ([Ch.bx n0 b4 0 [(Sl a21 r16.2.1 c22), (I r16.2.2)] [] [], Ch.ro 0 (Sl a21 r16.2.1 c22) r16.2.1] ++ [Ch.own n0 n0 (Sl a19 r16.1 c20) r16.1, Ch.ro 0 (Sl a21 r16.2.1 c22) r16.2.1, Ch.own n0 n0 (Sl a11 r8.1 c12) r8.1, Ch.ro 0 (Sl a13 r8.2.1 c14) r8.2.1, Ch.ro 0 (Sl a5 r1.1 c6) r1.1, Ch.ro 0 (Sl acode_0 code_0 ccode_0) code_0]) from (H.sel' [1, 2, 0, 2, 3, 4, 5, 6] rfl rfl))) wn ?_
 rintro _ σ31 ⟨_, ⟨a27, c28, a29, c30, rfl, rfl⟩, H, -⟩
 replace H : Hp S0 σ0 σ31 [Ch.own n0 n0 (Sl a27 r24.1 c28) r24.1, Ch.bx n0 b4 0 [(Sl a29 r24.2.1 c30), (I r24.2.2)] [] [], Ch.ro 0 (Sl a29 r24.2.1 c30) r24.2.1, Ch.own n0 n0 (Sl a19 r16.1 c20) r16.1, Ch.ro 0 (Sl a21 r16.2.1 c22) r16.2.1, Ch.own n0 n0 (Sl a11 r8.1 c12) r8.1, Ch.ro 0 (Sl a13 r8.2.1 c14) r8.2.1, Ch.ro 0 (Sl a5 r1.1 c6) r1.1, Ch.ro 0 (Sl acode_0 code_0 ccode_0) code_0] := H
 replace H : Hp S0 σ0 σ31 [Ch.own n0 n0 (Sl a27 r24.1 c28) r24.1, Ch.bx n0 b4 0 [(Sl a29 r24.2.1 c30), (I r24.2.2)] [] [], Ch.ro 0 (Sl a29 r24.2.1 c30) r24.2.1, Ch.own n0 n0 (Sl a19 r16.1 c20) r16.1, Ch.own n0 n0 (Sl a11 r8.1 c12) r8.1] := H.sel' [0, 1, 2, 3, 5] rfl rfl
 refine st (v := (Sl a27 r24.1 c28)) (rv_assign rfl) ?_
 refine w_end ?_
 refine q_then ?_
 refine c_seq ?_
 refine rg ?_
 refine st (v := (pt b4 0)) (rv_move rfl) ?_
 refine st_ex (ex_buildSlice (el := n0) (xs := ([1, 2, 3, 4, 0, 5, 1] : List Int)) (ps := [(0, (I 1)), (1, (I 2)), (2, (I 3)), (3, (I 4)), (4, (I 0)), (5, (I 5)), (6, (I 1))]) (cs := [(I 1), (I 2), (I 3), (I 4), (I 0), (I 5), (I 1)]) H hn0 Try.underlying29 ti3 rfl rfl (by kernel_rfl) (.cons (c := [(I 1)]) rfl (.cons (c := [(I 2)]) rfl (.cons (c := [(I 3)]) rfl (.cons (c := [(I 4)]) rfl (.cons (c := [(I 0)]) rfl (.cons (c := [(I 5)]) rfl (.cons (c := [(I 1)]) rfl (.nil)))))))) rfl) wn ?_
 rintro _ σ33 ⟨b32, rfl, H, -⟩
 obtain ⟨σ34, hw35, H, -⟩ := H.pub 0 rfl (Nat.le_refl _)
 rw [← hw35]; clear hw35
 replace H := H.roLow 0 0 rfl (Nat.zero_le _)
 obtain ⟨r36, hx37, h'⟩ := bind_some h
 clear h
 have h := h'; clear h'
 have hc38 := c_spec_reader_one (lor_0 := n0) (br_0 := b4) (or_0 := 0) (prer_0 := []) (sufr_0 := []) (ar_0_0 := a29) (cr_0_0 := c30) (alist_1 := (some ⟨b32, 0, none⟩)) (clist_1 := 7) hx37
 refine st_call (cx_call hc38 (ent_f hc38.fn rfl) hn0 (show Hp S0 σ0 _ ([Ch.bx n0 b4 0 [(Sl a29 r24.2.1 c30), (I r24.2.2)] [] [], Ch.ro 0 (Sl a29 r24.2.1 c30) r24.2.1, Ch.ro 0 (Sl (some ⟨b32, 0, none⟩) ([1, 2, 3, 4, 0, 5, 1] : List Int) 7) ([1, 2, 3, 4, 0, 5, 1] : List Int)] ++ [Ch.ro 0 (Sl (some ⟨b32, 0, none⟩) ([1, 2, 3, 4, 0, 5, 1] : List Int) 7) ([1, 2, 3, 4, 0, 5, 1] : List Int), Ch.ro n0 (Sl (some ⟨b32, 0, none⟩) ([1, 2, 3, 4, 0, 5, 1] : List Int) 7) ([1, 2, 3, 4, 0, 5, 1] : List Int), Ch.own n0 n0 (Sl a27 r24.1 c28) r24.1, Ch.ro 0 (Sl a29 r24.2.1 c30) r24.2.1, Ch.own n0 n0 (Sl a19 r16.1 c20) r16.1, Ch.own n0 n0 (Sl a11 r8.1 c12) r8.1]) from (H.sel' [3, 4, 0, 0, 1, 2, 4, 5, 6] rfl rfl))) wn ?_
 rintro _ σ41 ⟨_, ⟨a39, c40, rfl, rfl⟩, H, -⟩
 replace H : Hp S0 σ0 σ41 [Ch.bx n0 b4 0 [(Sl a39 r36.2.1 c40), (I r36.2.2)] [] [], Ch.ro 0 (Sl a39 r36.2.1 c40) r36.2.1, Ch.ro 0 (Sl (some ⟨b32, 0, none⟩) ([1, 2, 3, 4, 0, 5, 1] : List Int) 7) ([1, 2, 3, 4, 0, 5, 1] : List Int), Ch.ro n0 (Sl (some ⟨b32, 0, none⟩) ([1, 2, 3, 4, 0, 5, 1] : List Int) 7) ([1, 2, 3, 4, 0, 5, 1] : List Int), Ch.own n0 n0 (Sl a27 r24.1 c28) r24.1, Ch.ro 0 (Sl a29 r24.2.1 c30) r24.2.1, Ch.own n0 n0 (Sl a19 r16.1 c20) r16.1, Ch.own n0 n0 (Sl a11 r8.1 c12) r8.1] := H
 replace H : Hp S0 σ0 σ41 [Ch.bx n0 b4 0 [(Sl a39 r36.2.1 c40), (I r36.2.2)] [] [], Ch.ro 0 (Sl a39 r36.2.1 c40) r36.2.1, Ch.own n0 n0 (Sl a27 r24.1 c28) r24.1, Ch.own n0 n0 (Sl a19 r16.1 c20) r16.1, Ch.own n0 n0 (Sl a11 r8.1 c12) r8.1] := H.sel' [0, 1, 4, 6, 7] rfl rfl
 refine st (v := (I r36.1)) (rv_assign rfl) ?_
 refine w_end ?_
 refine q_then ?_
 refine c_seq ?_
 refine rg ?_
 refine st (v := (Sl a11 r8.1 c12)) (rv_move rfl) ?_
 refine st (v := (Sl a19 r16.1 c20)) (rv_move rfl) ?_
 refine st (v := (Sl a27 r24.1 c28)) (rv_move rfl) ?_
 refine st (v := (I r36.1)) (rv_move rfl) ?_
 refine st (v := (pt b4 0)) (rv_move rfl) ?_
 obtain ⟨r42, hx43, h'⟩ := bind_some h
 clear h
 have h := h'; clear h'
 have hc44 := c_spec_someK (lor_0 := n0) (br_0 := b4) (or_0 := 0) (prer_0 := []) (sufr_0 := []) (ar_0_0 := a39) (cr_0_0 := c40) hx43
 refine st_call (cx_call hc44 (ent_f hc44.fn rfl) hn0 (show Hp S0 σ0 _ ([Ch.bx n0 b4 0 [(Sl a39 r36.2.1 c40), (I r36.2.2)] [] [], Ch.ro 0 (Sl a39 r36.2.1 c40) r36.2.1] ++ [Ch.ro 0 (Sl a39 r36.2.1 c40) r36.2.1, Ch.own n0 n0 (Sl a27 r24.1 c28) r24.1, Ch.own n0 n0 (Sl a19 r16.1 c20) r16.1, Ch.own n0 n0 (Sl a11 r8.1 c12) r8.1]) from (H.sel' [0, 1, 1, 2, 3, 4] rfl rfl))) wn ?_
 rintro _ σ47 ⟨_, ⟨a45, c46, rfl, rfl⟩, H, -⟩
 replace H : Hp S0 σ0 σ47 [Ch.bx n0 b4 0 [(Sl a45 r42.2.1 c46), (I r42.2.2)] [] [], Ch.ro 0 (Sl a45 r42.2.1 c46) r42.2.1, Ch.ro 0 (Sl a39 r36.2.1 c40) r36.2.1, Ch.own n0 n0 (Sl a27 r24.1 c28) r24.1, Ch.own n0 n0 (Sl a19 r16.1 c20) r16.1, Ch.own n0 n0 (Sl a11 r8.1 c12) r8.1] := H
 refine st (v := (Sl a11 r8.1 c12)) (rv_assign rfl) ?_
 refine st (v := (Sl a19 r16.1 c20)) (rv_assign rfl) ?_
 refine st (v := (Sl a27 r24.1 c28)) (rv_assign rfl) ?_
 refine st (v := (I r36.1)) (rv_assign rfl) ?_
 refine st (v := (I r42.1)) (rv_assign rfl) ?_
 refine w_end ?_
 refine q_then ?_
 refine c_ret ?_
 obtain rfl := Option.some.inj h
 exact fin_ret (v := (.tuple #[(Sl a11 r8.1 c12), (Sl a19 r16.1 c20), (Sl a27 r24.1 c28), (I r36.1), (I r42.1)])) (results_ok Try.results63 (res_tmp (v := (Sl a11 r8.1 c12)) rfl (res_tmp (v := (Sl a19 r16.1 c20)) rfl (res_tmp (v := (Sl a27 r24.1 c28)) rfl (res_tmp (v := (I r36.1)) rfl (res_tmp (v := (I r42.1)) rfl res_nil))))) rfl) ⟨a11, c12, a19, c20, a27, c28, rfl, rfl⟩ (H.sel' [5, 4, 3] rfl rfl)

theorem c_spec_DrawProbeCost {code_0 : List UInt8} {acode_0 : Option Addr} {ccode_0 : Nat} {r : (List (List Int)) × (List (Int × (List Int) × Int)) × (List Int) × Int} (h : M.spec_DrawProbeCost code_0 = some r) :
    Cal2 Try.prog 26 [(Sl acode_0 code_0 ccode_0)] [Ch.ro 0 (Sl acode_0 code_0 ccode_0) code_0] (fun n0 v L => ∃ (az1 : Option Addr), ∃ (cz2 : Nat), ∃ (az3 : Option Addr), ∃ (cz4 : Nat), ∃ (az5 : Option Addr), ∃ (cz6 : Nat), v = (.tuple #[(Sl az1 r.1 cz2), (Sl az3 r.2.1 cz4), (Sl az5 r.2.2.1 cz6), (I r.2.2.2)]) ∧ L = [Ch.own n0 n0 (Sl az1 r.1 cz2) r.1, Ch.own n0 n0 (Sl az3 r.2.1 cz4) r.2.1, Ch.own n0 n0 (Sl az5 r.2.2.1 cz6) r.2.2.1]) := by
 refine cal2 (n := 23) Try.func26 rfl rfl rfl rfl ?_
 intro S0 σ0 n0 hn0 H
 unfold M.spec_DrawProbeCost at h
 refine c_seq ?_
 refine rg ?_
 refine st (v := (.slice none 0 0)) (rv_assign rfl) ?_
 refine st (v := (.slice none 0 0)) (rv_assign rfl) ?_
 refine st (v := (.slice none 0 0)) (rv_assign rfl) ?_
 refine st (v := (I 0)) (rv_assign rfl) ?_
 refine w_end ?_
 refine q_then ?_
 refine c_seq ?_
 refine rg ?_
 refine st (v := (Sl acode_0 code_0 ccode_0)) (rv_move rfl) ?_
 obtain ⟨r1, hx2, h'⟩ := bind_some h
 clear h
 have h := h'; clear h'
 have hc3 := c_spec_DrawProbeNearest (acode_0 := acode_0) (ccode_0 := ccode_0) hx2
 refine st_call (cx_call hc3 (ent_f hc3.fn rfl) hn0 (show Hp S0 σ0 _ ([Ch.ro 0 (Sl acode_0 code_0 ccode_0) code_0] ++ [Ch.ro 0 (Sl acode_0 code_0 ccode_0) code_0]) from (H.sel' [0, 0] rfl rfl))) wn ?_
 rintro _ σ10 ⟨_, ⟨a4, c5, a6, c7, a8, c9, rfl, rfl⟩, H, -⟩
 replace H : Hp S0 σ0 σ10 [Ch.own n0 n0 (Sl a4 r1.1 c5) r1.1, Ch.own n0 n0 (Sl a6 r1.2.1 c7) r1.2.1, Ch.own n0 n0 (Sl a8 r1.2.2.1 c9) r1.2.2.1, Ch.ro 0 (Sl acode_0 code_0 ccode_0) code_0] := H
 refine st (v := (.tuple #[(Sl a4 r1.1 c5), (Sl a6 r1.2.1 c7), (Sl a8 r1.2.2.1 c9), (I r1.2.2.2.1), (I r1.2.2.2.2)])) (rv_move rfl) ?_
 refine st (v := (Sl a4 r1.1 c5)) (rv_extract rfl rfl) ?_
 refine st (v := (Sl a6 r1.2.1 c7)) (rv_extract rfl rfl) ?_
 refine st (v := (Sl a8 r1.2.2.1 c9)) (rv_extract rfl rfl) ?_
 refine st (v := (I r1.2.2.2.1)) (rv_extract rfl rfl) ?_
 refine st (v := (I r1.2.2.2.2)) (rv_extract rfl rfl) ?_
 refine st (v := (Sl a4 r1.1 c5)) (rv_assign rfl) ?_
 refine st (v := (Sl a6 r1.2.1 c7)) (rv_assign rfl) ?_
 refine st (v := (Sl a8 r1.2.2.1 c9)) (rv_assign rfl) ?_
 refine st (v := (I r1.2.2.2.1)) (rv_assign rfl) ?_
 refine st (v := (I r1.2.2.2.2)) (rv_assign rfl) ?_
 refine w_end ?_
 refine q_then ?_
 refine c_seq ?_
 refine rg ?_
 refine st (v := (Sl a4 r1.1 c5)) (rv_move rfl) ?_
 refine st (v := (Sl a6 r1.2.1 c7)) (rv_move rfl) ?_
 refine st (v := (Sl a8 r1.2.2.1 c9)) (rv_move rfl) ?_
 refine st (v := (I r1.2.2.2.1)) (rv_move rfl) ?_
 refine st (v := (Sl a4 r1.1 c5)) (rv_assign rfl) ?_
 refine st (v := (Sl a6 r1.2.1 c7)) (rv_assign rfl) ?_
 refine st (v := (Sl a8 r1.2.2.1 c9)) (rv_assign rfl) ?_
 refine st (v := (I r1.2.2.2.1)) (rv_assign rfl) ?_
 refine w_end ?_
 refine q_then ?_
 refine c_ret ?_
 obtain rfl := Option.some.inj h
 exact fin_ret (v := (.tuple #[(Sl a4 r1.1 c5), (Sl a6 r1.2.1 c7), (Sl a8 r1.2.2.1 c9), (I r1.2.2.2.1)])) (results_ok Try.results26 (res_tmp (v := (Sl a4 r1.1 c5)) rfl (res_tmp (v := (Sl a6 r1.2.1 c7)) rfl (res_tmp (v := (Sl a8 r1.2.2.1 c9)) rfl (res_tmp (v := (I r1.2.2.2.1)) rfl res_nil)))) rfl) ⟨a4, c5, a6, c7, a8, c9, rfl, rfl⟩ (H.sel' [0, 1, 2] rfl rfl)

theorem c_impl_probedItems {centres_0 : List (List Int)} {list_1 : List (Int × (List Int) × Int)} {at_2 : List Int} {many_3 : Int} {acentres_0 : Option Addr} {ccentres_0 : Nat} {alist_1 : Option Addr} {clist_1 : Nat} {aat_2 : Option Addr} {cat_2 : Nat} {r : (List (Int × (List Int) × Int))} (h : M.impl_probedItems centres_0 list_1 at_2 many_3 = some r) :
    Cal2 Try.prog 65 [(Sl acentres_0 centres_0 ccentres_0), (Sl alist_1 list_1 clist_1), (Sl aat_2 at_2 cat_2), (I many_3)] [Ch.ro 0 (Sl acentres_0 centres_0 ccentres_0) centres_0, Ch.ro 0 (Sl alist_1 list_1 clist_1) list_1, Ch.ro 0 (Sl aat_2 at_2 cat_2) at_2] (fun n0 v L => ∃ (az1 : Option Addr), ∃ (cz2 : Nat), v = (Sl az1 r cz2) ∧ L = [Ch.own n0 0 (Sl az1 r cz2) r]) := by
 refine cal2 (n := 32) Try.func65 rfl rfl rfl rfl ?_
 intro S0 σ0 n0 hn0 H
 unfold M.impl_probedItems at h
 refine c_seq ?_
 refine rg ?_
 refine st (v := (.slice none 0 0)) (rv_assign rfl) ?_
 refine w_end ?_
 refine q_then ?_
 refine c_seq ?_
 refine rg ?_
 refine st (v := (Sl acentres_0 centres_0 ccentres_0)) (rv_move rfl) ?_
 refine st (v := (Sl alist_1 list_1 clist_1)) (rv_move rfl) ?_
 obtain ⟨r1, hx2, h'⟩ := bind_some h
 clear h
 have h := h'; clear h'
 have hc3 := c_impl_itemsByCentre (acentres_0 := acentres_0) (ccentres_0 := ccentres_0) (alist_1 := alist_1) (clist_1 := clist_1) hx2
 refine st_call (cx_call hc3 (ent_f hc3.fn rfl) hn0 (show Hp S0 σ0 _ ([Ch.ro 0 (Sl acentres_0 centres_0 ccentres_0) centres_0, Ch.ro 0 (Sl alist_1 list_1 clist_1) list_1] ++ [Ch.ro 0 (Sl acentres_0 centres_0 ccentres_0) centres_0, Ch.ro 0 (Sl alist_1 list_1 clist_1) list_1, Ch.ro 0 (Sl aat_2 at_2 cat_2) at_2]) from (H.sel' [0, 1, 0, 1, 2] rfl rfl))) wn ?_
 rintro _ σ7 ⟨_, ⟨b4, K5, rfl, rfl, hK6⟩, H, -⟩
 replace H : Hp S0 σ0 σ7 [Ch.big K5, Ch.ro 0 (Sl acentres_0 centres_0 ccentres_0) centres_0, Ch.ro 0 (Sl alist_1 list_1 clist_1) list_1, Ch.ro 0 (Sl aat_2 at_2 cat_2) at_2] := H
 refine st (v := (.map (some b4))) (rv_assign rfl) ?_
 refine w_end ?_
 refine q_then ?_
 refine c_seq ?_
 refine rg ?_
 refine st (v := (.slice none 0 0)) (rv_assign rfl) ?_
 refine w_end ?_
 refine q_then ?_
 refine c_seq ?_
 refine c_seq ?_
 refine rg ?_
 refine st (v := (Sl acentres_0 centres_0 ccentres_0)) (rv_move rfl) ?_
 refine st (v := (Sl aat_2 at_2 cat_2)) (rv_move rfl) ?_
 refine st (v := (I many_3)) (rv_move rfl) ?_
 obtain ⟨r8, hx9, h'⟩ := bind_some h
 clear h
 have h := h'; clear h'
 have hc10 := c_impl_ProbeOrder (acentres_0 := acentres_0) (ccentres_0 := ccentres_0) (aat_1 := aat_2) (cat_1 := cat_2) hx9
 refine st_call (cx_call hc10 (ent_f hc10.fn rfl) hn0 (show Hp S0 σ0 _ ([Ch.ro 0 (Sl acentres_0 centres_0 ccentres_0) centres_0, Ch.ro 0 (Sl aat_2 at_2 cat_2) at_2] ++ [Ch.big K5, Ch.ro 0 (Sl acentres_0 centres_0 ccentres_0) centres_0, Ch.ro 0 (Sl alist_1 list_1 clist_1) list_1, Ch.ro 0 (Sl aat_2 at_2 cat_2) at_2]) from (H.sel' [1, 3, 0, 1, 2, 3] rfl rfl))) wn ?_
 rintro _ σ13 ⟨_, ⟨a11, c12, rfl, rfl⟩, H, -⟩
 replace H : Hp S0 σ0 σ13 [Ch.own 0 n0 (Sl a11 r8 c12) r8, Ch.big K5, Ch.ro 0 (Sl acentres_0 centres_0 ccentres_0) centres_0, Ch.ro 0 (Sl alist_1 list_1 clist_1) list_1, Ch.ro 0 (Sl aat_2 at_2 cat_2) at_2] := H
 refine st (v := (I (r8.length : Int))) (rv_len Try.underlying29 rfl) ?_
 refine st (v := (I 0)) (rv_move rfl) ?_
 refine w_end ?_
 refine q_then ?_
 obtain ⟨o14, hj, h'⟩ := bind_some h
 clear h
 refine c_cut (fun e a w => e = .normal ∧ ∃ (ρ : Nat → Value) (σ : St) (aj1 : Option Addr) (cj2 : Nat), a = fr 32 (updL ρ [(10, (Sl aj1 o14 cj2))]) ∧ w = σ.w ∧ Hp S0 σ0 σ [Ch.own n0 0 (Sl aj1 o14 cj2) o14]) ?_ ?_
 ·clear h'
  rename _ = some o14 => h
  refine c_blk ?_
  obtain ⟨σ16, hw17, H, -⟩ := H.mpPub 1 rfl hK6
  rw [← hw17]; clear hw17
  replace H := H.nilOwn (Int × (List Int) × Int) n0 0
  refine wp_loopM _ h (fun s15 a w => ∃ (ρ : Nat → Value) (σ : St) (aj1 : Option Addr) (cj2 : Nat), a = fr 32 (updL ρ [(9, (.map (some b4))), (10, (Sl aj1 s15.1 cj2)), (19, (Sl a11 r8 c12)), (20, (I (r8.length : Int))), (21, (I s15.2))]) ∧ w = σ.w ∧ Hp S0 σ0 σ [Ch.mr b4 r1, Ch.own n0 0 (Sl aj1 s15.1 cj2) s15.1, Ch.own 0 n0 (Sl a11 r8 c12) r8]) ⟨_, σ16, none, 0, fr_join ⟨rfl, rfl, rfl, rfl, rfl, trivial⟩, rfl, H.sel' [1, 0, 2] rfl rfl⟩ ?_
  clear h H
  rintro s15 a w o ⟨ρ, σ18, a19, c20, rfl, rfl, H⟩ h hres
  refine c_seq ?_
  refine rg ?_
  refine st (v := (B (decide (s15.2 < (r8.length : Int))))) (rv_lss (a := s15.2) (b := (r8.length : Int)) rfl rfl) ?_
  refine w_end ?_
  refine q_then ?_
  refine c_seq ?_
  refine cd_cond (decide (s15.2 < (r8.length : Int))) rfl (fun hb21 => ?_) (fun hb21 => ?_)
  ·replace h := bif_t hb21 h
   refine c_skip ?_
   refine q_then ?_
   refine c_seq ?_
   refine c_blk ?_
   refine c_seq ?_
   refine rg ?_
   obtain ⟨x22, hx23, h'⟩ := bind_some h
   clear h
   have h := h'; clear h'
   obtain ⟨b25, o26, hi24, -⟩ := (H.own 2 rfl).ix hx23
   refine st (v := (pt b25 o26)) (rv_ix Try.underlying29 ti3 rfl rfl hi24) ?_
   have hc27 := ((H.own 2 rfl).at hx23 hi24).int
   refine st (v := (I x22)) (rv_load1 Try.underlying3 rfl rfl hc27) ?_
   refine st (v := (I x22)) (rv_assign rfl) ?_
   refine w_end ?_
   refine q_then ?_
   refine rg ?_
   refine st (v := (Sl a19 s15.1 c20)) (rv_move rfl) ?_
   refine st (v := (.map (some b4))) (rv_move rfl) ?_
   refine st (v := (I x22)) (rv_move rfl) ?_
   obtain ⟨v31, hL30, hR32⟩ := mrGet (H.mr 0 rfl) x22
   obtain ⟨a28, c29, rfl⟩ := hR32.isSl
   replace H := H.add (d := Ch.ro 0 (Sl a28 (mget r1 x22) c29) (mget r1 x22)) hR32 (fun _ h => h)
   clear hR32
   refine st (v := (Sl a28 (mget r1 x22) c29)) (rv_lookup Try.underlying63 Try.underlying3 ti24 rfl rfl hL30) ?_
   obtain ⟨xs33, hx34, h'⟩ := bind_some h
   clear h
   have h := h'; clear h'
   refine st_ex (ex_append H (i := 2) rfl Try.underlying24 Try.underlying24 ti31 rfl rfl (by decide) (H.ro 0 rfl).rd hx34 hn0 rfl rfl) wn ?_
   rintro _ σ37 ⟨a35, c36, rfl, H, -⟩
   refine st (v := (Sl a35 xs33 c36)) (rv_assign rfl) ?_
   refine w_end ?_
   refine q_blk ?_
   refine q_then ?_
   refine rg ?_
   refine st (v := (I (w64 (s15.2 + 1)))) (rv_add (a := s15.2) (b := 1) rfl rfl) ?_
   refine st (v := (I (w64 (s15.2 + 1)))) (rv_move rfl) ?_
   refine w_end ?_
   refine q_then ?_
   obtain rfl := Option.some.inj h
   exact ⟨_, rfl, _, σ37, a35, c36, fr_join ⟨rfl, rfl, rfl, rfl, rfl, trivial⟩, rfl, H.sel' [2, 0, 3] rfl rfl⟩
  ·replace h := bif_f hb21 h
   refine c_exit ?_
   refine q_then_x ?_
   refine q_then_x ?_
   refine q_blk_hit ?_
   obtain rfl := Option.some.inj h
   obtain rfl := hres _ rfl
   exact ⟨rfl, _, σ18, a19, c20, fr_join ⟨rfl, trivial⟩, rfl, H.sel' [1] rfl rfl⟩
 ·clear hj
  have h := h'
  clear h' H
  rintro e a w ⟨rfl, ρ, σ38, a39, c40, rfl, rfl, H⟩
  refine q_then ?_
  refine c_seq ?_
  refine rg ?_
  refine st (v := (Sl a39 o14 c40)) (rv_move rfl) ?_
  refine st (v := (Sl a39 o14 c40)) (rv_assign rfl) ?_
  refine w_end ?_
  refine q_then ?_
  refine c_ret ?_
  obtain rfl := Option.some.inj h
  exact fin_ret (v := (Sl a39 o14 c40)) (results_ok Try.results65 (res_tmp (v := (Sl a39 o14 c40)) rfl res_nil) rfl) ⟨a39, c40, rfl, rfl⟩ (H.sel' [0] rfl rfl)

theorem c_impl_ProbeCost {centres_0 : List (List Int)} {list_1 : List (Int × (List Int) × Int)} {at_2 : List Int} {many_3 : Int} {acentres_0 : Option Addr} {ccentres_0 : Nat} {alist_1 : Option Addr} {clist_1 : Nat} {aat_2 : Option Addr} {cat_2 : Nat} {r : Int} (h : M.impl_ProbeCost centres_0 list_1 at_2 many_3 = some r) :
    Cal2 Try.prog 27 [(Sl acentres_0 centres_0 ccentres_0), (Sl alist_1 list_1 clist_1), (Sl aat_2 at_2 cat_2), (I many_3)] [Ch.ro 0 (Sl acentres_0 centres_0 ccentres_0) centres_0, Ch.ro 0 (Sl alist_1 list_1 clist_1) list_1, Ch.ro 0 (Sl aat_2 at_2 cat_2) at_2] (fun n0 v L => v = (I r) ∧ L = []) := by
 refine cal2 (n := 28) Try.func27 rfl rfl rfl rfl ?_
 intro S0 σ0 n0 hn0 H
 unfold M.impl_ProbeCost at h
 refine c_seq ?_
 refine rg ?_
 refine st (v := (I 0)) (rv_assign rfl) ?_
 refine w_end ?_
 refine q_then ?_
 refine c_seq ?_
 refine c_seq ?_
 obtain ⟨o1, hj, h'⟩ := bind_some h
 clear h
 refine c_cut (fun e a w => e = .normal ∧ ∃ (ρ : Nat → Value) (σ : St), a = fr 28 (updL ρ [(0, (Sl acentres_0 centres_0 ccentres_0)), (1, (Sl alist_1 list_1 clist_1)), (2, (Sl aat_2 at_2 cat_2)), (3, (I many_3)), (18, (B o1))]) ∧ w = σ.w ∧ Hp S0 σ0 σ [Ch.ro 0 (Sl acentres_0 centres_0 ccentres_0) centres_0, Ch.ro 0 (Sl alist_1 list_1 clist_1) list_1, Ch.ro 0 (Sl aat_2 at_2 cat_2) at_2]) ?_ ?_
 ·clear h'
  rename _ = some o1 => h
  refine rg ?_
  refine st (v := (Sl acentres_0 centres_0 ccentres_0)) (rv_move rfl) ?_
  refine st (v := (Sl aat_2 at_2 cat_2)) (rv_move rfl) ?_
  refine st (v := (I many_3)) (rv_move rfl) ?_
  obtain ⟨r2, hx3, h'⟩ := bind_some h
  clear h
  have h := h'; clear h'
  have hc4 := c_impl_validProbe (acentres_0 := acentres_0) (ccentres_0 := ccentres_0) (aat_1 := aat_2) (cat_1 := cat_2) hx3
  refine st_call (cx_call hc4 (ent_f hc4.fn rfl) hn0 (show Hp S0 σ0 _ ([Ch.ro 0 (Sl acentres_0 centres_0 ccentres_0) centres_0, Ch.ro 0 (Sl aat_2 at_2 cat_2) at_2] ++ [Ch.ro 0 (Sl acentres_0 centres_0 ccentres_0) centres_0, Ch.ro 0 (Sl alist_1 list_1 clist_1) list_1, Ch.ro 0 (Sl aat_2 at_2 cat_2) at_2]) from (H.sel' [0, 2, 0, 1, 2] rfl rfl))) wn ?_
  rintro _ σ5 ⟨_, ⟨rfl, rfl⟩, H, -⟩
  replace H : Hp S0 σ0 σ5 [Ch.ro 0 (Sl acentres_0 centres_0 ccentres_0) centres_0, Ch.ro 0 (Sl alist_1 list_1 clist_1) list_1, Ch.ro 0 (Sl aat_2 at_2 cat_2) at_2] := H
  refine st (v := (B (!r2))) (rv_not rfl) ?_
  refine st (v := (B (!r2))) (rv_move rfl) ?_
  rcases Bool.eq_false_or_eq_true (!r2) with hb6 | hb6
  ·replace h := bif_t hb6 h
   refine st_skip (congrArg some hb6) ?_
   refine st_skip (congrArg some hb6) ?_
   refine st_skip (congrArg some hb6) ?_
   refine st (v := (B true)) (rv_pick_t (congrArg B hb6) rfl) ?_
   refine w_end ?_
   obtain rfl := Option.some.inj h
   exact ⟨rfl, _, σ5, fr_join ⟨rfl, rfl, rfl, rfl, rfl, trivial⟩, rfl, H.sel' [0, 1, 2] rfl rfl⟩
  ·replace h := bif_f hb6 h
   refine st_g (v := (Sl alist_1 list_1 clist_1)) (congrArg some hb6) (rv_move rfl) ?_
   obtain ⟨r7, hx8, h'⟩ := bind_some h
   clear h
   have h := h'; clear h'
   have hc9 := c_impl_ValidStore (alist_0 := alist_1) (clist_0 := clist_1) hx8
   refine st_call (cx_call hc9 (ent_f hc9.fn rfl) hn0 (show Hp S0 σ0 _ ([Ch.ro 0 (Sl alist_1 list_1 clist_1) list_1] ++ [Ch.ro 0 (Sl acentres_0 centres_0 ccentres_0) centres_0, Ch.ro 0 (Sl alist_1 list_1 clist_1) list_1, Ch.ro 0 (Sl aat_2 at_2 cat_2) at_2]) from (H.sel' [1, 0, 1, 2] rfl rfl))) (wanted_yes rfl (by exact (congrArg some hb6))) ?_
   rintro _ σ10 ⟨_, ⟨rfl, rfl⟩, H, -⟩
   replace H : Hp S0 σ0 σ10 [Ch.ro 0 (Sl acentres_0 centres_0 ccentres_0) centres_0, Ch.ro 0 (Sl alist_1 list_1 clist_1) list_1, Ch.ro 0 (Sl aat_2 at_2 cat_2) at_2] := H
   refine st_g (v := (B (!r7))) (congrArg some hb6) (rv_not rfl) ?_
   refine st (v := (B (!r7))) (rv_pick_f (congrArg B hb6) rfl) ?_
   refine w_end ?_
   obtain rfl := Option.some.inj h
   exact ⟨rfl, _, σ10, fr_join ⟨rfl, rfl, rfl, rfl, rfl, trivial⟩, rfl, H.sel' [0, 1, 2] rfl rfl⟩
 ·clear hj
  have h := h'
  clear h' H
  rintro e a w ⟨rfl, ρ, σ11, rfl, rfl, H⟩
  refine q_then ?_
  refine cd_cond o1 rfl (fun hb12 => ?_) (fun hb12 => ?_)
  ·replace h := bif_t hb12 h
   refine c_seq ?_
   refine rg ?_
   refine st (v := (I (-1))) (rv_assign rfl) ?_
   refine w_end ?_
   refine q_then ?_
   refine c_ret ?_
   refine q_then_r ?_
   obtain rfl := Option.some.inj h
   exact fin_ret (v := (I (-1))) (results_ok Try.results27 (res_tmp (v := (I (-1))) rfl res_nil) rfl) ⟨rfl, rfl⟩ (H.sel' [] rfl rfl)
  ·replace h := bif_f hb12 h
   refine c_skip ?_
   refine q_then ?_
   refine c_seq ?_
   refine rg ?_
   refine st (v := (Sl acentres_0 centres_0 ccentres_0)) (rv_move rfl) ?_
   refine st (v := (I (centres_0.length : Int))) (rv_len Try.underlying23 rfl) ?_
   refine st (v := (Sl acentres_0 centres_0 ccentres_0)) (rv_move rfl) ?_
   refine st (v := (Sl alist_1 list_1 clist_1)) (rv_move rfl) ?_
   refine st (v := (Sl aat_2 at_2 cat_2)) (rv_move rfl) ?_
   refine st (v := (I many_3)) (rv_move rfl) ?_
   obtain ⟨r13, hx14, h'⟩ := bind_some h
   clear h
   have h := h'; clear h'
   have hc15 := c_impl_probedItems (acentres_0 := acentres_0) (ccentres_0 := ccentres_0) (alist_1 := alist_1) (clist_1 := clist_1) (aat_2 := aat_2) (cat_2 := cat_2) hx14
   refine st_call (cx_call hc15 (ent_f hc15.fn rfl) hn0 (show Hp S0 σ0 _ ([Ch.ro 0 (Sl acentres_0 centres_0 ccentres_0) centres_0, Ch.ro 0 (Sl alist_1 list_1 clist_1) list_1, Ch.ro 0 (Sl aat_2 at_2 cat_2) at_2] ++ [Ch.ro 0 (Sl acentres_0 centres_0 ccentres_0) centres_0, Ch.ro 0 (Sl alist_1 list_1 clist_1) list_1, Ch.ro 0 (Sl aat_2 at_2 cat_2) at_2]) from (H.sel' [0, 1, 2, 0, 1, 2] rfl rfl))) wn ?_
   rintro _ σ18 ⟨_, ⟨a16, c17, rfl, rfl⟩, H, -⟩
   replace H : Hp S0 σ0 σ18 [Ch.own n0 0 (Sl a16 r13 c17) r13, Ch.ro 0 (Sl acentres_0 centres_0 ccentres_0) centres_0, Ch.ro 0 (Sl alist_1 list_1 clist_1) list_1, Ch.ro 0 (Sl aat_2 at_2 cat_2) at_2] := H
   refine st (v := (I (r13.length : Int))) (rv_len Try.underlying24 rfl) ?_
   refine st (v := (I (w64 ((centres_0.length : Int) + (r13.length : Int))))) (rv_add (a := (centres_0.length : Int)) (b := (r13.length : Int)) rfl rfl) ?_
   refine st (v := (I (w64 ((centres_0.length : Int) + (r13.length : Int))))) (rv_assign rfl) ?_
   refine w_end ?_
   refine q_then ?_
   refine c_ret ?_
   obtain rfl := Option.some.inj h
   exact fin_ret (v := (I (w64 ((centres_0.length : Int) + (r13.length : Int))))) (results_ok Try.results27 (res_tmp (v := (I (w64 ((centres_0.length : Int) + (r13.length : Int))))) rfl res_nil) rfl) ⟨rfl, rfl⟩ (H.sel' [] rfl rfl)

theorem c_spec_validCentres {list_0 : List (List Int)} {alist_0 : Option Addr} {clist_0 : Nat} {r : Bool} (h : M.spec_validCentres list_0 = some r) :
    Cal2 Try.prog 43 [(Sl alist_0 list_0 clist_0)] [Ch.ro 0 (Sl alist_0 list_0 clist_0) list_0] (fun n0 v L => v = (B r) ∧ L = []) := by
 refine cal2 (n := 19) Try.func43 rfl rfl rfl rfl ?_
 intro S0 σ0 n0 hn0 H
 unfold M.spec_validCentres at h
 refine c_seq ?_
 refine rg ?_
 refine st (v := (B false)) (rv_assign rfl) ?_
 refine w_end ?_
 refine q_then ?_
 refine c_seq ?_
 refine c_seq ?_
 refine rg ?_
 refine st (v := (I 0)) (rv_assign rfl) ?_
 refine w_end ?_
 refine q_then ?_
 obtain ⟨o1, hj, h'⟩ := bind_some h
 clear h
 refine c_cut (fun e a w => (∃ t, o1 = (.inl t) ∧ e = .normal ∧ ∃ (ρ : Nat → Value) (σ : St), a = fr 19 (updL ρ [(0, (Sl alist_0 list_0 clist_0))]) ∧ w = σ.w ∧ Hp S0 σ0 σ [Ch.ro 0 (Sl alist_0 list_0 clist_0) list_0]) ∨ (∃ t, o1 = (.inr t) ∧ e = .ret ∧ ∃ (ρ : Nat → Value) (σ : St), a = fr 19 (updL ρ [(2, (B t))]) ∧ w = σ.w ∧ Hp S0 σ0 σ [])) ?_ ?_
 ·clear h'
  rename _ = some o1 => h
  refine c_blk ?_
  refine wp_loopM _ h (fun s2 a w => ∃ (ρ : Nat → Value) (σ : St), a = fr 19 (updL ρ [(0, (Sl alist_0 list_0 clist_0)), (3, (I s2))]) ∧ w = σ.w ∧ Hp S0 σ0 σ [Ch.ro 0 (Sl alist_0 list_0 clist_0) list_0]) ⟨_, σ0, fr_join ⟨rfl, rfl, trivial⟩, rfl, H.sel' [0] rfl rfl⟩ ?_
  clear h H
  rintro s2 a w o ⟨ρ, σ3, rfl, rfl, H⟩ h hres
  refine c_seq ?_
  refine c_seq ?_
  refine rg ?_
  refine st (v := (I s2)) (rv_move rfl) ?_
  refine st (v := (Sl alist_0 list_0 clist_0)) (rv_move rfl) ?_
  refine st (v := (I (list_0.length : Int))) (rv_len Try.underlying23 rfl) ?_
  refine st (v := (B (decide (s2 < (list_0.length : Int))))) (rv_lss (a := s2) (b := (list_0.length : Int)) rfl rfl) ?_
  refine w_end ?_
  refine q_then ?_
  refine cd_cond (decide (s2 < (list_0.length : Int))) rfl (fun hb4 => ?_) (fun hb4 => ?_)
  ·replace h := bif_t hb4 h
   refine c_skip ?_
   refine q_then ?_
   refine c_seq ?_
   refine c_blk ?_
   refine c_seq ?_
   refine rg ?_
   refine st (v := (Sl alist_0 list_0 clist_0)) (rv_move rfl) ?_
   refine st (v := (I s2)) (rv_move rfl) ?_
   obtain ⟨x5, hx6, h'⟩ := bind_some h
   clear h
   have h := h'; clear h'
   obtain ⟨b8, o9, hi7, -⟩ := (H.ro 0 rfl).ix hx6
   refine st (v := (pt b8 o9)) (rv_ix Try.underlying23 ti29 rfl rfl hi7) ?_
   obtain ⟨v13, hc14, hR12⟩ := ((H.ro 0 rfl).at hx6 hi7).slice
   obtain ⟨a10, c11, rfl⟩ := hR12.isSl
   replace H := H.add (d := Ch.ro 0 (Sl a10 x5 c11) x5) hR12 (fun _ h => h)
   clear hR12
   refine st (v := (Sl a10 x5 c11)) (rv_load1 Try.underlying29 rfl rfl hc14) ?_
   obtain ⟨r15, hx16, h'⟩ := bind_some h
   clear h
   have h := h'; clear h'
   have hc17 := c_spec_isVector (av_0 := a10) (cv_0 := c11) hx16
   refine st_call (cx_call hc17 (ent_f hc17.fn rfl) hn0 (show Hp S0 σ0 _ ([Ch.ro 0 (Sl a10 x5 c11) x5] ++ [Ch.ro 0 (Sl a10 x5 c11) x5, Ch.ro 0 (Sl alist_0 list_0 clist_0) list_0]) from (H.sel' [0, 0, 1] rfl rfl))) wn ?_
   rintro _ σ18 ⟨_, ⟨rfl, rfl⟩, H, -⟩
   replace H : Hp S0 σ0 σ18 [Ch.ro 0 (Sl a10 x5 c11) x5, Ch.ro 0 (Sl alist_0 list_0 clist_0) list_0] := H
   refine st (v := (B (!r15))) (rv_not rfl) ?_
   refine w_end ?_
   refine q_then ?_
   refine cd_cond (!r15) rfl (fun hb19 => ?_) (fun hb19 => ?_)
   ·replace h := bif_t hb19 h
    refine c_seq ?_
    refine rg ?_
    refine st (v := (B false)) (rv_assign rfl) ?_
    refine w_end ?_
    refine q_then ?_
    refine c_ret ?_
    refine q_blk_r ?_
    refine q_then_r ?_
    refine q_then_r ?_
    refine q_blk_r ?_
    obtain rfl := Option.some.inj h
    obtain rfl := hres _ rfl
    exact .inr (⟨_, rfl, rfl, _, σ18, fr_join ⟨rfl, trivial⟩, rfl, H.sel' [] rfl rfl⟩)
   ·replace h := bif_f hb19 h
    refine c_skip ?_
    refine q_blk ?_
    refine q_then ?_
    refine rg ?_
    refine st (v := (I s2)) (rv_move rfl) ?_
    refine st (v := (I (w64 (s2 + 1)))) (rv_add (a := s2) (b := 1) rfl rfl) ?_
    refine st (v := (I (w64 (s2 + 1)))) (rv_assign rfl) ?_
    refine w_end ?_
    refine q_then ?_
    obtain rfl := Option.some.inj h
    exact ⟨_, rfl, _, σ18, fr_join ⟨rfl, rfl, trivial⟩, rfl, H.sel' [1] rfl rfl⟩
  ·replace h := bif_f hb4 h
   refine c_exit ?_
   refine q_then_x ?_
   refine q_then_x ?_
   refine q_blk_hit ?_
   obtain rfl := Option.some.inj h
   obtain rfl := hres _ rfl
   exact .inl ⟨_, rfl, rfl, _, σ3, fr_join ⟨rfl, trivial⟩, rfl, H.sel' [0] rfl rfl⟩
 ·clear hj
  have h := h'
  clear h' H
  rintro e a w (⟨t20, rfl, rfl, ρ, σ21, rfl, rfl, H⟩ | ⟨t26, rfl, rfl, ρ, σ27, rfl, rfl, H⟩)
  ·replace h := selim_l h
   refine q_then ?_
   refine c_seq ?_
   refine rg ?_
   refine st (v := (Sl alist_0 list_0 clist_0)) (rv_move rfl) ?_
   refine st (v := (I (list_0.length : Int))) (rv_len Try.underlying23 rfl) ?_
   obtain ⟨r22, hx23, h'⟩ := bind_some h
   clear h
   have h := h'; clear h'
   have hc24 := c_spec_inRange hx23
   refine st_call (cx_call hc24 (ent_f hc24.fn rfl) hn0 (show Hp S0 σ0 _ ([] ++ [Ch.ro 0 (Sl alist_0 list_0 clist_0) list_0]) from (H.sel' [0] rfl rfl))) wn ?_
   rintro _ σ25 ⟨_, ⟨rfl, rfl⟩, H, -⟩
   replace H : Hp S0 σ0 σ25 [Ch.ro 0 (Sl alist_0 list_0 clist_0) list_0] := H
   refine st (v := (B r22)) (rv_assign rfl) ?_
   refine w_end ?_
   refine q_then ?_
   refine c_ret ?_
   obtain rfl := Option.some.inj h
   exact fin_ret (v := (B r22)) (results_ok Try.results43 (res_tmp (v := (B r22)) rfl res_nil) rfl) ⟨rfl, rfl⟩ (H.sel' [] rfl rfl)
  ·replace h := selim_r h
   refine q_then_r ?_
   obtain rfl := Option.some.inj h
   exact fin_ret (v := (B t26)) (results_ok Try.results43 (res_tmp (v := (B t26)) rfl res_nil) rfl) ⟨rfl, rfl⟩ (H.sel' [] rfl rfl)

theorem c_spec_toInt {b_0 : Bool}  {r : Int} (h : M.spec_toInt b_0 = some r) :
    Cal2 Try.prog 67 [(B b_0)] [] (fun n0 v L => v = (I r) ∧ L = []) := by
 refine cal2 (n := 4) Try.func67 rfl rfl rfl rfl ?_
 intro S0 σ0 n0 hn0 H
 unfold M.spec_toInt at h
 refine c_seq ?_
 refine rg ?_
 refine st (v := (I 0)) (rv_assign rfl) ?_
 refine w_end ?_
 refine q_then ?_
 refine c_seq ?_
 refine c_seq ?_
 refine rg ?_
 refine st (v := (B b_0)) (rv_move rfl) ?_
 refine w_end ?_
 refine q_then ?_
 refine cd_cond b_0 rfl (fun hb1 => ?_) (fun hb1 => ?_)
 ·replace h := bif_t hb1 h
  refine c_seq ?_
  refine rg ?_
  refine st (v := (I 1)) (rv_assign rfl) ?_
  refine w_end ?_
  refine q_then ?_
  refine c_ret ?_
  refine q_then_r ?_
  obtain rfl := Option.some.inj h
  exact fin_ret (v := (I 1)) (results_ok Try.results67 (res_tmp (v := (I 1)) rfl res_nil) rfl) ⟨rfl, rfl⟩ (H.sel' [] rfl rfl)
 ·replace h := bif_f hb1 h
  refine c_skip ?_
  refine q_then ?_
  refine c_seq ?_
  refine rg ?_
  refine st (v := (I 0)) (rv_assign rfl) ?_
  refine w_end ?_
  refine q_then ?_
  refine c_ret ?_
  obtain rfl := Option.some.inj h
  exact fin_ret (v := (I 0)) (results_ok Try.results67 (res_tmp (v := (I 0)) rfl res_nil) rfl) ⟨rfl, rfl⟩ (H.sel' [] rfl rfl)

theorem c_spec_size {n_0 : Int}  {r : Int} (h : M.spec_size n_0 = some r) :
    Cal2 Try.prog 85 [(I n_0)] [] (fun n0 v L => v = (I r) ∧ L = []) := by
 refine cal2 (n := 7) Try.func85 rfl rfl rfl rfl ?_
 intro S0 σ0 n0 hn0 H
 unfold M.spec_size at h
 refine c_seq ?_
 refine rg ?_
 refine st (v := (I 0)) (rv_assign rfl) ?_
 refine w_end ?_
 refine q_then ?_
 refine c_seq ?_
 refine rg ?_
 refine st (v := (I n_0)) (rv_move rfl) ?_
 refine st (v := (I n_0)) (rv_move rfl) ?_
 refine st (v := (I (w64 (0 - n_0)))) (rv_neg (a := n_0) rfl) ?_
 refine st (v := (I (max n_0 (w64 (0 - n_0))))) (rv_max rfl rfl) ?_
 refine st (v := (I (max n_0 (w64 (0 - n_0))))) (rv_assign rfl) ?_
 refine w_end ?_
 refine q_then ?_
 refine c_ret ?_
 obtain rfl := Option.some.inj h
 exact fin_ret (v := (I (max n_0 (w64 (0 - n_0))))) (results_ok Try.results85 (res_tmp (v := (I (max n_0 (w64 (0 - n_0))))) rfl res_nil) rfl) ⟨rfl, rfl⟩ (H.sel' [] rfl rfl)

theorem c_spec_dist {kind_0 : Int} {a_1 : List Int} {b_2 : List Int} {aa_1 : Option Addr} {ca_1 : Nat} {ab_2 : Option Addr} {cb_2 : Nat} {r : Int} (h : M.spec_dist kind_0 a_1 b_2 = some r) :
    Cal2 Try.prog 45 [(I kind_0), (Sl aa_1 a_1 ca_1), (Sl ab_2 b_2 cb_2)] [Ch.ro 0 (Sl aa_1 a_1 ca_1) a_1, Ch.ro 0 (Sl ab_2 b_2 cb_2) b_2] (fun n0 v L => v = (I r) ∧ L = []) := by
 refine cal2 (n := 50) Try.func45 rfl rfl rfl rfl ?_
 intro S0 σ0 n0 hn0 H
 unfold M.spec_dist at h
 refine c_seq ?_
 refine rg ?_
 refine st (v := (I 0)) (rv_assign rfl) ?_
 refine w_end ?_
 refine q_then ?_
 refine c_seq ?_
 refine rg ?_
 refine st (v := (I 0)) (rv_assign rfl) ?_
 refine w_end ?_
 refine q_then ?_
 refine c_seq ?_
 refine c_seq ?_
 refine rg ?_
 refine st (v := (I 0)) (rv_assign rfl) ?_
 refine w_end ?_
 refine q_then ?_
 obtain ⟨o1, hj, h'⟩ := bind_some h
 clear h
 refine c_cut (fun e a w => e = .normal ∧ ∃ (ρ : Nat → Value) (σ : St), a = fr 50 (updL ρ [(7, (I o1))]) ∧ w = σ.w ∧ Hp S0 σ0 σ []) ?_ ?_
 ·clear h'
  rename _ = some o1 => h
  refine c_blk ?_
  refine wp_loopM _ h (fun s2 a w => ∃ (ρ : Nat → Value) (σ : St), a = fr 50 (updL ρ [(0, (I kind_0)), (1, (Sl aa_1 a_1 ca_1)), (2, (Sl ab_2 b_2 cb_2)), (7, (I s2.1)), (8, (I s2.2))]) ∧ w = σ.w ∧ Hp S0 σ0 σ [Ch.ro 0 (Sl aa_1 a_1 ca_1) a_1, Ch.ro 0 (Sl ab_2 b_2 cb_2) b_2]) ⟨_, σ0, fr_join ⟨rfl, rfl, rfl, rfl, rfl, trivial⟩, rfl, H.sel' [0, 1] rfl rfl⟩ ?_
  clear h H
  rintro s2 a w o ⟨ρ, σ3, rfl, rfl, H⟩ h hres
  refine c_seq ?_
  refine c_seq ?_
  refine rg ?_
  refine st (v := (I s2.2)) (rv_move rfl) ?_
  refine st (v := (Sl aa_1 a_1 ca_1)) (rv_move rfl) ?_
  refine st (v := (I (a_1.length : Int))) (rv_len Try.underlying29 rfl) ?_
  refine st (v := (B (decide (s2.2 < (a_1.length : Int))))) (rv_lss (a := s2.2) (b := (a_1.length : Int)) rfl rfl) ?_
  refine w_end ?_
  refine q_then ?_
  refine cd_cond (decide (s2.2 < (a_1.length : Int))) rfl (fun hb4 => ?_) (fun hb4 => ?_)
  ·replace h := bif_t hb4 h
   refine c_skip ?_
   refine q_then ?_
   refine c_seq ?_
   obtain ⟨o5, hj, h'⟩ := bind_some h
   clear h
   refine c_cut (fun e a w => e = .normal ∧ ∃ (ρ : Nat → Value) (σ : St), a = fr 50 (updL ρ [(0, (I kind_0)), (1, (Sl aa_1 a_1 ca_1)), (2, (Sl ab_2 b_2 cb_2)), (7, (I o5)), (8, (I s2.2))]) ∧ w = σ.w ∧ Hp S0 σ0 σ [Ch.ro 0 (Sl aa_1 a_1 ca_1) a_1, Ch.ro 0 (Sl ab_2 b_2 cb_2) b_2]) ?_ ?_
   ·clear h'
    rename _ = some o5 => h
    refine c_blk ?_
    refine c_seq ?_
    refine rgP (σ := σ3) 8 (by kernel_rfl) (by kernel_rfl) (by kernel_rfl) ?_
    refine sq (v := (Sl aa_1 a_1 ca_1)) (rv_move rfl) ?_
    refine sq (v := (I s2.2)) (rv_move rfl) ?_
    obtain ⟨x6, hx7, h'⟩ := bind_some h
    clear h
    have h := h'; clear h'
    obtain ⟨b9, o10, hi8, -⟩ := (H.ro 0 rfl).ix hx7
    refine sq (v := (pt b9 o10)) (rv_ix Try.underlying29 ti3 rfl rfl hi8) ?_
    have hc11 := ((H.ro 0 rfl).at hx7 hi8).int
    refine sq (v := (I x6)) (rv_load1 Try.underlying3 rfl rfl hc11) ?_
    refine sq (v := (Sl ab_2 b_2 cb_2)) (rv_move rfl) ?_
    refine sq (v := (I s2.2)) (rv_move rfl) ?_
    obtain ⟨x12, hx13, h'⟩ := bind_some h
    clear h
    have h := h'; clear h'
    obtain ⟨b15, o16, hi14, -⟩ := (H.ro 1 rfl).ix hx13
    refine sq (v := (pt b15 o16)) (rv_ix Try.underlying29 ti3 rfl rfl hi14) ?_
    have hc17 := ((H.ro 1 rfl).at hx13 hi14).int
    refine sq (v := (I x12)) (rv_load1 Try.underlying3 rfl rfl hc17) ?_
    refine sq_end ?_
    intro σ18 hm19
    replace H := H.grow (hm19.mono fun _ h => h); clear hm19
    refine st (v := (I (w64 (x6 - x12)))) (rv_sub (a := x6) (b := x12) rfl rfl) ?_
    obtain ⟨r20, hx21, h'⟩ := bind_some h
    clear h
    have h := h'; clear h'
    have hc22 := c_spec_size hx21
    refine st_call (cx_call hc22 (ent_f hc22.fn rfl) hn0 (show Hp S0 σ0 _ ([] ++ [Ch.ro 0 (Sl aa_1 a_1 ca_1) a_1, Ch.ro 0 (Sl ab_2 b_2 cb_2) b_2]) from (H.sel' [0, 1] rfl rfl))) wn ?_
    rintro _ σ23 ⟨_, ⟨rfl, rfl⟩, H, -⟩
    replace H : Hp S0 σ0 σ23 [Ch.ro 0 (Sl aa_1 a_1 ca_1) a_1, Ch.ro 0 (Sl ab_2 b_2 cb_2) b_2] := H
    refine st (v := (I r20)) (rv_assign rfl) ?_
    refine w_end ?_
    refine q_then ?_
    refine c_seq ?_
    refine rg ?_
    refine st (v := (I kind_0)) (rv_move rfl) ?_
    refine w_end ?_
    refine q_then ?_
    refine c_blk ?_
    refine c_seq ?_
    refine rg ?_
    refine st (v := (B (kind_0 == 1))) (rv_eql (a := kind_0) (b := 1) rfl rfl) ?_
    refine st (v := (B (kind_0 == 1))) (rv_assign rfl) ?_
    refine w_end ?_
    refine q_then ?_
    refine cd_cond (kind_0 == 1) rfl (fun hb24 => ?_) (fun hb24 => ?_)
    ·replace h := bif_t hb24 h
     refine rg ?_
     refine st (v := (I s2.1)) (rv_move rfl) ?_
     refine st (v := (I r20)) (rv_move rfl) ?_
     refine st (v := (I (w64 (s2.1 + r20)))) (rv_add (a := s2.1) (b := r20) rfl rfl) ?_
     refine st (v := (I (w64 (s2.1 + r20)))) (rv_assign rfl) ?_
     refine w_end ?_
     refine q_blk ?_
     refine q_blk ?_
     obtain rfl := Option.some.inj h
     exact ⟨rfl, _, σ23, fr_join ⟨rfl, rfl, rfl, rfl, rfl, trivial⟩, rfl, H.sel' [0, 1] rfl rfl⟩
    ·replace h := bif_f hb24 h
     refine c_seq ?_
     refine rg ?_
     refine st (v := (B (kind_0 == 2))) (rv_eql (a := kind_0) (b := 2) rfl rfl) ?_
     refine st (v := (B (kind_0 == 2))) (rv_assign rfl) ?_
     refine w_end ?_
     refine q_then ?_
     refine cd_cond (kind_0 == 2) rfl (fun hb25 => ?_) (fun hb25 => ?_)
     ·replace h := bif_t hb25 h
      refine rg ?_
      refine st (v := (I s2.1)) (rv_move rfl) ?_
      refine st (v := (I r20)) (rv_move rfl) ?_
      refine st (v := (I (max s2.1 r20))) (rv_max rfl rfl) ?_
      refine st (v := (I (max s2.1 r20))) (rv_assign rfl) ?_
      refine w_end ?_
      refine q_blk ?_
      refine q_blk ?_
      obtain rfl := Option.some.inj h
      exact ⟨rfl, _, σ23, fr_join ⟨rfl, rfl, rfl, rfl, rfl, trivial⟩, rfl, H.sel' [0, 1] rfl rfl⟩
     ·replace h := bif_f hb25 h
      refine c_seq ?_
      refine rg ?_
      refine st (v := (B (kind_0 == 3))) (rv_eql (a := kind_0) (b := 3) rfl rfl) ?_
      refine st (v := (B (kind_0 == 3))) (rv_assign rfl) ?_
      refine w_end ?_
      refine q_then ?_
      refine cd_cond (kind_0 == 3) rfl (fun hb26 => ?_) (fun hb26 => ?_)
      ·replace h := bif_t hb26 h
       refine rg ?_
       refine st (v := (I s2.1)) (rv_move rfl) ?_
       refine st (v := (I r20)) (rv_move rfl) ?_
       refine st (v := (I r20)) (rv_move rfl) ?_
       refine st (v := (I (w64 (r20 * r20)))) (rv_mul (a := r20) (b := r20) rfl rfl) ?_
       refine st (v := (I (w64 (s2.1 + (w64 (r20 * r20)))))) (rv_add (a := s2.1) (b := (w64 (r20 * r20))) rfl rfl) ?_
       refine st (v := (I (w64 (s2.1 + (w64 (r20 * r20)))))) (rv_assign rfl) ?_
       refine w_end ?_
       refine q_blk ?_
       refine q_blk ?_
       obtain rfl := Option.some.inj h
       exact ⟨rfl, _, σ23, fr_join ⟨rfl, rfl, rfl, rfl, rfl, trivial⟩, rfl, H.sel' [0, 1] rfl rfl⟩
      ·replace h := bif_f hb26 h
       refine rg ?_
       refine st (v := (I s2.1)) (rv_move rfl) ?_
       refine st (v := (I r20)) (rv_move rfl) ?_
       refine st (v := (B (decide (0 < r20)))) (rv_gtr (a := r20) (b := 0) rfl rfl) ?_
       obtain ⟨r27, hx28, h'⟩ := bind_some h
       clear h
       have h := h'; clear h'
       have hc29 := c_spec_toInt hx28
       refine st_call (cx_call hc29 (ent_f hc29.fn rfl) hn0 (show Hp S0 σ0 _ ([] ++ [Ch.ro 0 (Sl aa_1 a_1 ca_1) a_1, Ch.ro 0 (Sl ab_2 b_2 cb_2) b_2]) from (H.sel' [0, 1] rfl rfl))) wn ?_
       rintro _ σ30 ⟨_, ⟨rfl, rfl⟩, H, -⟩
       replace H : Hp S0 σ0 σ30 [Ch.ro 0 (Sl aa_1 a_1 ca_1) a_1, Ch.ro 0 (Sl ab_2 b_2 cb_2) b_2] := H
       refine st (v := (I (w64 (s2.1 + r27)))) (rv_add (a := s2.1) (b := r27) rfl rfl) ?_
       refine st (v := (I (w64 (s2.1 + r27)))) (rv_assign rfl) ?_
       refine w_end ?_
       refine q_blk ?_
       refine q_blk ?_
       obtain rfl := Option.some.inj h
       exact ⟨rfl, _, σ30, fr_join ⟨rfl, rfl, rfl, rfl, rfl, trivial⟩, rfl, H.sel' [0, 1] rfl rfl⟩
   ·clear hj
    have h := h'
    clear h' H
    rintro e a w ⟨rfl, ρ, σ31, rfl, rfl, H⟩
    refine q_then ?_
    refine rg ?_
    refine st (v := (I s2.2)) (rv_move rfl) ?_
    refine st (v := (I (w64 (s2.2 + 1)))) (rv_add (a := s2.2) (b := 1) rfl rfl) ?_
    refine st (v := (I (w64 (s2.2 + 1)))) (rv_assign rfl) ?_
    refine w_end ?_
    refine q_then ?_
    obtain rfl := Option.some.inj h
    exact ⟨_, rfl, _, σ31, fr_join ⟨rfl, rfl, rfl, rfl, rfl, trivial⟩, rfl, H.sel' [0, 1] rfl rfl⟩
  ·replace h := bif_f hb4 h
   refine c_exit ?_
   refine q_then_x ?_
   refine q_then_x ?_
   refine q_blk_hit ?_
   obtain rfl := Option.some.inj h
   obtain rfl := hres _ rfl
   exact ⟨rfl, _, σ3, fr_join ⟨rfl, trivial⟩, rfl, H.sel' [] rfl rfl⟩
 ·clear hj
  have h := h'
  clear h' H
  rintro e a w ⟨rfl, ρ, σ32, rfl, rfl, H⟩
  refine q_then ?_
  refine c_seq ?_
  refine rg ?_
  refine st (v := (I o1)) (rv_move rfl) ?_
  refine st (v := (I o1)) (rv_assign rfl) ?_
  refine w_end ?_
  refine q_then ?_
  refine c_ret ?_
  obtain rfl := Option.some.inj h
  exact fin_ret (v := (I o1)) (results_ok Try.results45 (res_tmp (v := (I o1)) rfl res_nil) rfl) ⟨rfl, rfl⟩ (H.sel' [] rfl rfl)

theorem c_spec_centreOf {centres_0 : List (List Int)} {at_1 : List Int} {acentres_0 : Option Addr} {ccentres_0 : Nat} {aat_1 : Option Addr} {cat_1 : Nat} {r : Int} (h : M.spec_centreOf centres_0 at_1 = some r) :
    Cal2 Try.prog 46 [(Sl acentres_0 centres_0 ccentres_0), (Sl aat_1 at_1 cat_1)] [Ch.ro 0 (Sl acentres_0 centres_0 ccentres_0) centres_0, Ch.ro 0 (Sl aat_1 at_1 cat_1) at_1] (fun n0 v L => v = (I r) ∧ L = []) := by
 refine cal2 (n := 28) Try.func46 rfl rfl rfl rfl ?_
 intro S0 σ0 n0 hn0 H
 unfold M.spec_centreOf at h
 refine c_seq ?_
 refine rg ?_
 refine st (v := (I 0)) (rv_assign rfl) ?_
 refine w_end ?_
 refine q_then ?_
 refine c_seq ?_
 refine rg ?_
 refine st (v := (I 0)) (rv_assign rfl) ?_
 refine w_end ?_
 refine q_then ?_
 refine c_seq ?_
 refine c_seq ?_
 refine rg ?_
 refine st (v := (I 1)) (rv_assign rfl) ?_
 refine w_end ?_
 refine q_then ?_
 obtain ⟨o1, hj, h'⟩ := bind_some h
 clear h
 refine c_cut (fun e a w => e = .normal ∧ ∃ (ρ : Nat → Value) (σ : St), a = fr 28 (updL ρ [(5, (I o1))]) ∧ w = σ.w ∧ Hp S0 σ0 σ []) ?_ ?_
 ·clear h'
  rename _ = some o1 => h
  refine c_blk ?_
  refine wp_loopM _ h (fun s2 a w => ∃ (ρ : Nat → Value) (σ : St), a = fr 28 (updL ρ [(0, (Sl acentres_0 centres_0 ccentres_0)), (1, (Sl aat_1 at_1 cat_1)), (5, (I s2.1)), (6, (I s2.2))]) ∧ w = σ.w ∧ Hp S0 σ0 σ [Ch.ro 0 (Sl acentres_0 centres_0 ccentres_0) centres_0, Ch.ro 0 (Sl aat_1 at_1 cat_1) at_1]) ⟨_, σ0, fr_join ⟨rfl, rfl, rfl, rfl, trivial⟩, rfl, H.sel' [0, 1] rfl rfl⟩ ?_
  clear h H
  rintro s2 a w o ⟨ρ, σ3, rfl, rfl, H⟩ h hres
  refine c_seq ?_
  refine c_seq ?_
  refine rg ?_
  refine st (v := (I s2.2)) (rv_move rfl) ?_
  refine st (v := (Sl acentres_0 centres_0 ccentres_0)) (rv_move rfl) ?_
  refine st (v := (I (centres_0.length : Int))) (rv_len Try.underlying23 rfl) ?_
  refine st (v := (B (decide (s2.2 < (centres_0.length : Int))))) (rv_lss (a := s2.2) (b := (centres_0.length : Int)) rfl rfl) ?_
  refine w_end ?_
  refine q_then ?_
  refine cd_cond (decide (s2.2 < (centres_0.length : Int))) rfl (fun hb4 => ?_) (fun hb4 => ?_)
  ·replace h := bif_t hb4 h
   refine c_skip ?_
   refine q_then ?_
   refine c_seq ?_
   obtain ⟨o5, hj, h'⟩ := bind_some h
   clear h
   refine c_cut (fun e a w => e = .normal ∧ ∃ (ρ : Nat → Value) (σ : St), a = fr 28 (updL ρ [(0, (Sl acentres_0 centres_0 ccentres_0)), (1, (Sl aat_1 at_1 cat_1)), (5, (I o5)), (6, (I s2.2))]) ∧ w = σ.w ∧ Hp S0 σ0 σ [Ch.ro 0 (Sl acentres_0 centres_0 ccentres_0) centres_0, Ch.ro 0 (Sl aat_1 at_1 cat_1) at_1]) ?_ ?_
   ·clear h'
    rename _ = some o5 => h
    refine c_blk ?_
    refine c_seq ?_
    obtain ⟨x6, hx7, h'⟩ := bind_some h
    clear h
    have h := h'; clear h'
    obtain ⟨b9, o10, hi8, -⟩ := (H.ro 0 rfl).ix hx7
    obtain ⟨v14, hc15, hR13⟩ := ((H.ro 0 rfl).at hx7 hi8).slice
    obtain ⟨a11, c12, rfl⟩ := hR13.isSl
    replace H := H.add (d := Ch.ro 0 (Sl a11 x6 c12) x6) hR13 (fun _ h => h)
    clear hR13
    obtain ⟨r16, hx17, h'⟩ := bind_some h
    clear h
    have h := h'; clear h'
    have hc18 := c_spec_dist (aa_1 := a11) (ca_1 := c12) (ab_2 := aat_1) (cb_2 := cat_1) hx17
    obtain ⟨x19, hx20, h'⟩ := bind_some h
    clear h
    have h := h'; clear h'
    obtain ⟨b22, o23, hi21, -⟩ := (H.ro 1 rfl).ix hx20
    obtain ⟨v27, hc28, hR26⟩ := ((H.ro 1 rfl).at hx20 hi21).slice
    obtain ⟨a24, c25, rfl⟩ := hR26.isSl
    replace H := H.add (d := Ch.ro 0 (Sl a24 x19 c25) x19) hR26 (fun _ h => h)
    clear hR26
    have Hs := H
    refine rg2 (σ := σ3) (Nm := Unit) 11 [5] [[false], [true]] [[(0, 0)], [(0, 0)], [(0, 0)], [(0, 0)], [(0, 0)], [(0, 1)], [(0, 0), (1, 1)], [(0, 0), (1, 1)], [(0, 0), (1, 1)], [(0, 0), (1, 1)], [(0, 0), (1, 1)]] 1 [fun _ => fun σm => Hp S0 σ0 σm [Ch.ro 0 (Sl a24 x19 c25) x19, Ch.ro 0 (Sl a11 x6 c12) x6, Ch.ro 0 (Sl acentres_0 centres_0 ccentres_0) centres_0, Ch.ro 0 (Sl aat_1 at_1 cat_1) at_1] ∧ Md (cov []) σ3 σm, fun _ => fun σm => Hp S0 σ0 σm [Ch.ro 0 (Sl a24 x19 c25) x19, Ch.ro 0 (Sl a11 x6 c12) x6, Ch.ro 0 (Sl acentres_0 centres_0 ccentres_0) centres_0, Ch.ro 0 (Sl aat_1 at_1 cat_1) at_1] ∧ Md (cov []) σ3 σm] [fun _ => (Sl acentres_0 centres_0 ccentres_0), fun _ => (I s2.2), fun _ => (pt b9 o10), fun _ => (Sl a11 x6 c12), fun _ => (Sl aat_1 at_1 cat_1), fun _ => (I r16), fun _ => (Sl acentres_0 centres_0 ccentres_0), fun _ => (I s2.1), fun _ => (pt b22 o23), fun _ => (Sl a24 x19 c25), fun _ => (Sl aat_1 at_1 cat_1)] () (by kernel_rfl) (by kernel_rfl) ?_ ?_ ?_
    ·intro σm m0
     exact ⟨H.grow (m0.mono fun _ h => h.elim), m0⟩
    ·refine ac rfl (by
       intro k _nm ρ σm hJ hoff hdep
       have e0 := look_off (N := 28) (hoff 0 rfl) rfl
       exact dp_v (v := (Sl acentres_0 centres_0 ccentres_0)) wn (rv_move e0) rfl hJ) ?_
     refine ac rfl (by
       intro k _nm ρ σm hJ hoff hdep
       have e6 := look_off (N := 28) (hoff 6 rfl) rfl
       exact dp_v (v := (I s2.2)) wn (rv_move e6) rfl hJ) ?_
     refine ac rfl (by
       intro k _nm ρ σm hJ hoff hdep
       have e13 := hdep 0 rfl rfl 13 rfl
       have e14 := hdep 1 rfl rfl 14 rfl
       exact dp_v (v := (pt b9 o10)) wn (rv_ix Try.underlying23 ti29 e13 e14 hi8) rfl hJ) ?_
     refine all_cons (by
       refine ⟨?_, ?_⟩
       ·intro _nm ρ σm hJ hoff hdep
        have e15 := hdep 2 rfl rfl 15 rfl
        obtain ⟨H, m⟩ := id hJ
        replace hc15 := (Hs.ro 2 rfl).hmd hx7 hi8 (k := 0) (by decide) hc15 m
        exact dp_v (v := (Sl a11 x6 c12)) wn (rv_load1 Try.underlying29 rfl e15 hc15) rfl hJ
       trivial) ?_
     refine ac rfl (by
       intro k _nm ρ σm hJ hoff hdep
       have e1 := look_off (N := 28) (hoff 1 rfl) rfl
       exact dp_v (v := (Sl aat_1 at_1 cat_1)) wn (rv_move e1) rfl hJ) ?_
     refine all_cons (by
       refine ⟨?_, ?_⟩
       ·intro _nm ρ σm hJ hoff hdep
        have e16 : look 28 ρ 16 = (Sl a11 x6 c12) := hdep 3 rfl rfl 16 rfl
        have e17 : look 28 ρ 17 = (Sl aat_1 at_1 cat_1) := hdep 4 rfl rfl 17 rfl
        obtain ⟨H, m⟩ := id hJ
        refine dp_cx wn (cx_call hc18 (ent_f hc18.fn (by show [(I 3), look 28 ρ 16, look 28 ρ 17] = _; rw [e16, e17])) hn0 (show Hp S0 σ0 _ ([Ch.ro 0 (Sl a11 x6 c12) x6, Ch.ro 0 (Sl aat_1 at_1 cat_1) at_1] ++ [Ch.ro 0 (Sl a24 x19 c25) x19, Ch.ro 0 (Sl a11 x6 c12) x6, Ch.ro 0 (Sl acentres_0 centres_0 ccentres_0) centres_0, Ch.ro 0 (Sl aat_1 at_1 cat_1) at_1]) from (H.sel' [1, 3, 0, 1, 2, 3] rfl rfl))) ?_
        rintro _ σq ⟨_, ⟨rfl, rfl⟩, H2, m2⟩
        exact ⟨_, (), rfl, rfl, ⟨H2.sel' [0, 1, 2, 3] rfl rfl, m.comp0 (m2.mono (fun i h => by simp [cov, Ch.ro] at h))⟩, stab [0, 1, 2, 3, 4, 6, 7, 8, 9, 10] (by kernel_rfl) ⟨rfl, rfl, rfl, rfl, rfl, rfl, rfl, rfl, rfl, rfl, trivial⟩⟩
       trivial) ?_
     refine ac rfl (by
       intro k _nm ρ σm hJ hoff hdep
       have e0 := look_off (N := 28) (hoff 0 rfl) rfl
       exact dp_v (v := (Sl acentres_0 centres_0 ccentres_0)) wn (rv_move e0) rfl hJ) ?_
     refine ac rfl (by
       intro k _nm ρ σm hJ hoff hdep
       have e5 := look_off (N := 28) (hoff 5 rfl) rfl
       exact dp_v (v := (I s2.1)) wn (rv_move e5) rfl hJ) ?_
     refine ac rfl (by
       intro k _nm ρ σm hJ hoff hdep
       have e19 := hdep 6 rfl rfl 19 rfl
       have e20 := hdep 7 rfl rfl 20 rfl
       exact dp_v (v := (pt b22 o23)) wn (rv_ix Try.underlying23 ti29 e19 e20 hi21) rfl hJ) ?_
     refine all_cons (by
       refine ⟨?_, ?_⟩
       ·intro _nm ρ σm hJ hoff hdep
        have e21 := hdep 8 rfl rfl 21 rfl
        obtain ⟨H, m⟩ := id hJ
        replace hc28 := (Hs.ro 2 rfl).hmd hx20 hi21 (k := 0) (by decide) hc28 m
        exact dp_v (v := (Sl a24 x19 c25)) wn (rv_load1 Try.underlying29 rfl e21 hc28) rfl hJ
       refine ⟨?_, ?_⟩
       ·intro _nm ρ σm hJ hoff hdep
        have e21 := hdep 8 rfl rfl 21 rfl
        obtain ⟨H, m⟩ := id hJ
        replace hc28 := (Hs.ro 2 rfl).hmd hx20 hi21 (k := 0) (by decide) hc28 m
        exact dp_v (v := (Sl a24 x19 c25)) wn (rv_load1 Try.underlying29 rfl e21 hc28) rfl hJ
       trivial) ?_
     refine ac rfl (by
       intro k _nm ρ σm hJ hoff hdep
       have e1 := look_off (N := 28) (hoff 1 rfl) rfl
       exact dp_v (v := (Sl aat_1 at_1 cat_1)) wn (rv_move e1) rfl hJ) ?_
     exact all_nil
    ·intro _nm ρ σ29 hJ hoff hrel
     have e0 := look_off (N := 28) (hoff 0 rfl) rfl
     have e1 := look_off (N := 28) (hoff 1 rfl) rfl
     have e5 := look_off (N := 28) (hoff 5 rfl) rfl
     have e6 := look_off (N := 28) (hoff 6 rfl) rfl
     have e18 := hrel 5 rfl 18 rfl
     have e22 := hrel 9 rfl 22 rfl
     have e23 := hrel 10 rfl 23 rfl
     obtain ⟨H, -⟩ := (show Hp S0 σ0 σ29 [Ch.ro 0 (Sl a24 x19 c25) x19, Ch.ro 0 (Sl a11 x6 c12) x6, Ch.ro 0 (Sl acentres_0 centres_0 ccentres_0) centres_0, Ch.ro 0 (Sl aat_1 at_1 cat_1) at_1] ∧ Md (cov []) σ3 σ29 from hJ)
     clear hJ Hs
     rw [fr_lookL (L := [(0, (Sl acentres_0 centres_0 ccentres_0)), (1, (Sl aat_1 at_1 cat_1)), (5, (I s2.1)), (6, (I s2.2)), (18, (I r16)), (22, (Sl a24 x19 c25)), (23, (Sl aat_1 at_1 cat_1))]) ⟨e0, e1, e5, e6, e18, e22, e23, trivial⟩]
     clear hoff hrel e0 e1 e5 e6 e18 e22 e23
     obtain ⟨r30, hx31, h'⟩ := bind_some h
     clear h
     have h := h'; clear h'
     have hc32 := c_spec_dist (aa_1 := a24) (ca_1 := c25) (ab_2 := aat_1) (cb_2 := cat_1) hx31
     refine st_call (cx_call hc32 (ent_f hc32.fn rfl) hn0 (show Hp S0 σ0 _ ([Ch.ro 0 (Sl a24 x19 c25) x19, Ch.ro 0 (Sl aat_1 at_1 cat_1) at_1] ++ [Ch.ro 0 (Sl a24 x19 c25) x19, Ch.ro 0 (Sl a11 x6 c12) x6, Ch.ro 0 (Sl acentres_0 centres_0 ccentres_0) centres_0, Ch.ro 0 (Sl aat_1 at_1 cat_1) at_1]) from (H.sel' [0, 3, 0, 1, 2, 3] rfl rfl))) wn ?_
     rintro _ σ33 ⟨_, ⟨rfl, rfl⟩, H, -⟩
     replace H : Hp S0 σ0 σ33 [Ch.ro 0 (Sl a24 x19 c25) x19, Ch.ro 0 (Sl a11 x6 c12) x6, Ch.ro 0 (Sl acentres_0 centres_0 ccentres_0) centres_0, Ch.ro 0 (Sl aat_1 at_1 cat_1) at_1] := H
     refine st (v := (B (decide (r16 < r30)))) (rv_lss (a := r16) (b := r30) rfl rfl) ?_
     refine w_end ?_
     refine q_then ?_
     refine cd_cond (decide (r16 < r30)) rfl (fun hb34 => ?_) (fun hb34 => ?_)
     ·replace h := bif_t hb34 h
      refine rg ?_
      refine st (v := (I s2.2)) (rv_move rfl) ?_
      refine st (v := (I s2.2)) (rv_assign rfl) ?_
      refine w_end ?_
      refine q_blk ?_
      obtain rfl := Option.some.inj h
      exact ⟨rfl, _, σ33, fr_join ⟨rfl, rfl, rfl, rfl, trivial⟩, rfl, H.sel' [2, 3] rfl rfl⟩
     ·replace h := bif_f hb34 h
      refine c_skip ?_
      refine q_blk ?_
      obtain rfl := Option.some.inj h
      exact ⟨rfl, _, σ33, fr_join ⟨rfl, rfl, rfl, rfl, trivial⟩, rfl, H.sel' [2, 3] rfl rfl⟩
   ·clear hj
    have h := h'
    clear h' H
    rintro e a w ⟨rfl, ρ, σ35, rfl, rfl, H⟩
    refine q_then ?_
    refine rg ?_
    refine st (v := (I s2.2)) (rv_move rfl) ?_
    refine st (v := (I (w64 (s2.2 + 1)))) (rv_add (a := s2.2) (b := 1) rfl rfl) ?_
    refine st (v := (I (w64 (s2.2 + 1)))) (rv_assign rfl) ?_
    refine w_end ?_
    refine q_then ?_
    obtain rfl := Option.some.inj h
    exact ⟨_, rfl, _, σ35, fr_join ⟨rfl, rfl, rfl, rfl, trivial⟩, rfl, H.sel' [0, 1] rfl rfl⟩
  ·replace h := bif_f hb4 h
   refine c_exit ?_
   refine q_then_x ?_
   refine q_then_x ?_
   refine q_blk_hit ?_
   obtain rfl := Option.some.inj h
   obtain rfl := hres _ rfl
   exact ⟨rfl, _, σ3, fr_join ⟨rfl, trivial⟩, rfl, H.sel' [] rfl rfl⟩
 ·clear hj
  have h := h'
  clear h' H
  rintro e a w ⟨rfl, ρ, σ36, rfl, rfl, H⟩
  refine q_then ?_
  refine c_seq ?_
  refine rg ?_
  refine st (v := (I o1)) (rv_move rfl) ?_
  refine st (v := (I o1)) (rv_assign rfl) ?_
  refine w_end ?_
  refine q_then ?_
  refine c_ret ?_
  obtain rfl := Option.some.inj h
  exact fin_ret (v := (I o1)) (results_ok Try.results46 (res_tmp (v := (I o1)) rfl res_nil) rfl) ⟨rfl, rfl⟩ (H.sel' [] rfl rfl)

theorem c_spec_nearer {a_0 : Int × Int} {b_1 : Int × Int}  {r : Bool} (h : M.spec_nearer a_0 b_1 = some r) :
    Cal2 Try.prog 110 [(.agg #[(I a_0.1), (I a_0.2)]), (.agg #[(I b_1.1), (I b_1.2)])] [] (fun n0 v L => v = (B r) ∧ L = []) := by
 refine cal2 (n := 24) Try.func110 rfl rfl rfl rfl ?_
 intro S0 σ0 n0 hn0 H
 unfold M.spec_nearer at h
 refine c_seq ?_
 refine rg ?_
 refine st_ex (ex_box (cs := [(I a_0.1), (I a_0.2)]) H hn0 rfl rfl) wn ?_
 rintro _ σ2 ⟨b1, rfl, H, -⟩
 refine st_ex (ex_box (cs := [(I b_1.1), (I b_1.2)]) H hn0 rfl rfl) wn ?_
 rintro _ σ4 ⟨b3, rfl, H, -⟩
 refine st (v := (B false)) (rv_assign rfl) ?_
 refine w_end ?_
 refine q_then ?_
 refine c_seq ?_
 refine rg ?_
 refine st (v := (pt b1 1)) (rv_fieldAddr (off := 1) (ft := 3) Try.underlying87 rfl ti3 rfl rfl) ?_
 have hc5 := H.cell (u := (I a_0.2)) (o' := 1) 1 1 rfl rfl rfl
 refine st (v := (I a_0.2)) (rv_load1 Try.underlying3 rfl rfl hc5) ?_
 refine st (v := (pt b3 1)) (rv_fieldAddr (off := 1) (ft := 3) Try.underlying87 rfl ti3 rfl rfl) ?_
 have hc6 := H.cell (u := (I b_1.2)) (o' := 1) 0 1 rfl rfl rfl
 refine st (v := (I b_1.2)) (rv_load1 Try.underlying3 rfl rfl hc6) ?_
 refine st (v := (B (decide (a_0.2 < b_1.2)))) (rv_lss (a := a_0.2) (b := b_1.2) rfl rfl) ?_
 refine st (v := (B (decide (a_0.2 < b_1.2)))) (rv_move rfl) ?_
 rcases Bool.eq_false_or_eq_true (decide (a_0.2 < b_1.2)) with hb7 | hb7
 ·replace h := bif_t hb7 h
  refine st_skip (congrArg some hb7) ?_
  refine st_skip (congrArg some hb7) ?_
  refine st_skip (congrArg some hb7) ?_
  refine st_skip (congrArg some hb7) ?_
  refine st_skip (congrArg some hb7) ?_
  refine st_skip (congrArg some hb7) ?_
  refine st_skip_u rfl ?_
  refine st_skip_u rfl ?_
  refine st_skip_u rfl ?_
  refine st_skip_u rfl ?_
  refine st_skip_u rfl ?_
  refine st_skip (congrArg some hb7) ?_
  refine st (v := (B true)) (rv_pick_t (congrArg B hb7) rfl) ?_
  refine st (v := (B true)) (rv_assign rfl) ?_
  refine w_end ?_
  refine q_then ?_
  refine c_ret ?_
  obtain rfl := Option.some.inj h
  exact fin_ret (v := (B true)) (results_ok Try.results110 (res_tmp (v := (B true)) rfl res_nil) rfl) ⟨rfl, rfl⟩ (H.sel' [] rfl rfl)
 ·replace h := bif_f hb7 h
  refine st_g (v := (pt b1 1)) (congrArg some hb7) (rv_fieldAddr (off := 1) (ft := 3) Try.underlying87 rfl ti3 rfl rfl) ?_
  have hc8 := H.cell (u := (I a_0.2)) (o' := 1) 1 1 rfl rfl rfl
  refine st_g (v := (I a_0.2)) (congrArg some hb7) (rv_load1 Try.underlying3 rfl rfl hc8) ?_
  refine st_g (v := (pt b3 1)) (congrArg some hb7) (rv_fieldAddr (off := 1) (ft := 3) Try.underlying87 rfl ti3 rfl rfl) ?_
  have hc9 := H.cell (u := (I b_1.2)) (o' := 1) 0 1 rfl rfl rfl
  refine st_g (v := (I b_1.2)) (congrArg some hb7) (rv_load1 Try.underlying3 rfl rfl hc9) ?_
  refine st_g (v := (B (a_0.2 == b_1.2))) (congrArg some hb7) (rv_eql (a := a_0.2) (b := b_1.2) rfl rfl) ?_
  refine st_g (v := (B (a_0.2 == b_1.2))) (congrArg some hb7) (rv_move rfl) ?_
  rcases Bool.eq_false_or_eq_true (a_0.2 == b_1.2) with hb10 | hb10
  ·replace h := bif_t hb10 h
   refine st_g (v := (pt b1 0)) (congrArg some hb10) (rv_fieldAddr (off := 0) (ft := 3) Try.underlying87 rfl ti3 rfl rfl) ?_
   have hc11 := H.cell (u := (I a_0.1)) (o' := 0) 1 0 rfl rfl rfl
   refine st_g (v := (I a_0.1)) (congrArg some hb10) (rv_load1 Try.underlying3 rfl rfl hc11) ?_
   refine st_g (v := (pt b3 0)) (congrArg some hb10) (rv_fieldAddr (off := 0) (ft := 3) Try.underlying87 rfl ti3 rfl rfl) ?_
   have hc12 := H.cell (u := (I b_1.1)) (o' := 0) 0 0 rfl rfl rfl
   refine st_g (v := (I b_1.1)) (congrArg some hb10) (rv_load1 Try.underlying3 rfl rfl hc12) ?_
   refine st_g (v := (B (decide (a_0.1 < b_1.1)))) (congrArg some hb10) (rv_lss (a := a_0.1) (b := b_1.1) rfl rfl) ?_
   refine st_g (v := (B (decide (a_0.1 < b_1.1)))) (congrArg some hb7) (rv_pick_t (congrArg B hb10) rfl) ?_
   refine st (v := (B (decide (a_0.1 < b_1.1)))) (rv_pick_f (congrArg B hb7) rfl) ?_
   refine st (v := (B (decide (a_0.1 < b_1.1)))) (rv_assign rfl) ?_
   refine w_end ?_
   refine q_then ?_
   refine c_ret ?_
   obtain rfl := Option.some.inj h
   exact fin_ret (v := (B (decide (a_0.1 < b_1.1)))) (results_ok Try.results110 (res_tmp (v := (B (decide (a_0.1 < b_1.1)))) rfl res_nil) rfl) ⟨rfl, rfl⟩ (H.sel' [] rfl rfl)
  ·replace h := bif_f hb10 h
   refine st_skip (congrArg some hb10) ?_
   refine st_skip (congrArg some hb10) ?_
   refine st_skip (congrArg some hb10) ?_
   refine st_skip (congrArg some hb10) ?_
   refine st_skip (congrArg some hb10) ?_
   refine st_g (v := (B false)) (congrArg some hb7) (rv_pick_f (congrArg B hb10) rfl) ?_
   refine st (v := (B false)) (rv_pick_f (congrArg B hb7) rfl) ?_
   refine st (v := (B false)) (rv_assign rfl) ?_
   refine w_end ?_
   refine q_then ?_
   refine c_ret ?_
   obtain rfl := Option.some.inj h
   exact fin_ret (v := (B false)) (results_ok Try.results110 (res_tmp (v := (B false)) rfl res_nil) rfl) ⟨rfl, rfl⟩ (H.sel' [] rfl rfl)

theorem c_spec_addHit {list_0 : List (Int × Int)} {h_1 : Int × Int} {k_2 : Int} {alist_0 : Option Addr} {clist_0 : Nat} {r : (List (Int × Int))} (h : M.spec_addHit list_0 h_1 k_2 = some r) :
    Cal2 Try.prog 92 [(Sl alist_0 list_0 clist_0), (.agg #[(I h_1.1), (I h_1.2)]), (I k_2)] [Ch.ro 0 (Sl alist_0 list_0 clist_0) list_0] (fun n0 v L => ∃ (az1 : Option Addr), ∃ (cz2 : Nat), v = (Sl az1 r cz2) ∧ L = [Ch.own n0 n0 (Sl az1 r cz2) r]) := by
 refine cal2 (n := 58) Try.func92 rfl rfl rfl rfl ?_
 intro S0 σ0 n0 hn0 H
 unfold M.spec_addHit at h
 refine c_seq ?_
 refine rg ?_
 refine st_ex (ex_box (cs := [(I h_1.1), (I h_1.2)]) H hn0 rfl rfl) wn ?_
 rintro _ σ2 ⟨b1, rfl, H, -⟩
 refine st (v := (.slice none 0 0)) (rv_assign rfl) ?_
 refine w_end ?_
 refine q_then ?_
 refine c_seq ?_
 obtain ⟨xs4, hx5, h'⟩ := bind_some h
 clear h
 have h := h'; clear h'
 have hc8 := H.cells 0 rfl
 have Hs := H
 refine rg2 (σ := σ2) (Nm := (Nat) × (Option Addr) × (Nat) × (Nat)) 5 [0, 2, 4] [[false, false, false], [true, false, false], [false, false, true], [true, true, false], [true, false, true], [true, true, true]] [[(0, 1), (2, 4)], [(0, 0), (1, 1), (2, 2), (4, 4)], [(1, 3), (4, 5)], [(0, 0), (1, 1), (3, 3)], [(0, 2), (1, 4), (3, 5)]] 5 [fun ((b3, a6, c7, b9) : (Nat) × (Option Addr) × (Nat) × (Nat)) => fun σm => Hp S0 σ0 σm [Ch.bx n0 b1 0 [(I h_1.1), (I h_1.2)] [] [], Ch.ro 0 (Sl alist_0 list_0 clist_0) list_0] ∧ Md (cov []) σ2 σm, fun ((b3, a6, c7, b9) : (Nat) × (Option Addr) × (Nat) × (Nat)) => fun σm => Hp S0 σ0 σm [Ch.own n0 n0 (Sl (some ⟨b3, 0, none⟩) ([] : List (Int × Int)) 0) ([] : List (Int × Int)), Ch.bx n0 b1 0 [(I h_1.1), (I h_1.2)] [] [], Ch.ro 0 (Sl alist_0 list_0 clist_0) list_0] ∧ Md (cov []) σ2 σm, fun ((b3, a6, c7, b9) : (Nat) × (Option Addr) × (Nat) × (Nat)) => fun σm => Hp S0 σ0 σm [Ch.own n0 n0 (Sl (some ⟨b9, 0, none⟩) ([(h_1.1, h_1.2)] : List (Int × Int)) 1) ([(h_1.1, h_1.2)] : List (Int × Int)), Ch.bx n0 b1 0 [(I h_1.1), (I h_1.2)] [] [], Ch.ro 0 (Sl alist_0 list_0 clist_0) list_0] ∧ Md (cov []) σ2 σm, fun ((b3, a6, c7, b9) : (Nat) × (Option Addr) × (Nat) × (Nat)) => fun σm => Hp S0 σ0 σm [Ch.own n0 n0 (Sl a6 xs4 c7) xs4, Ch.bx n0 b1 0 [(I h_1.1), (I h_1.2)] [] [], Ch.ro 0 (Sl alist_0 list_0 clist_0) list_0] ∧ Md (fun i => (cov []) i ∨ (fun b => blk (Sl (some ⟨b3, 0, none⟩) ([] : List (Int × Int)) 0) = some b) i) σ2 σm, fun ((b3, a6, c7, b9) : (Nat) × (Option Addr) × (Nat) × (Nat)) => fun σm => Hp S0 σ0 σm [Ch.own n0 n0 (Sl (some ⟨b9, 0, none⟩) ([(h_1.1, h_1.2)] : List (Int × Int)) 1) ([(h_1.1, h_1.2)] : List (Int × Int)), Ch.own n0 n0 (Sl (some ⟨b3, 0, none⟩) ([] : List (Int × Int)) 0) ([] : List (Int × Int)), Ch.bx n0 b1 0 [(I h_1.1), (I h_1.2)] [] [], Ch.ro 0 (Sl alist_0 list_0 clist_0) list_0] ∧ Md (cov []) σ2 σm, fun ((b3, a6, c7, b9) : (Nat) × (Option Addr) × (Nat) × (Nat)) => fun σm => Hp S0 σ0 σm [Ch.own n0 n0 (Sl (some ⟨b9, 0, none⟩) ([(h_1.1, h_1.2)] : List (Int × Int)) 1) ([(h_1.1, h_1.2)] : List (Int × Int)), Ch.own n0 n0 (Sl a6 xs4 c7) xs4, Ch.bx n0 b1 0 [(I h_1.1), (I h_1.2)] [] [], Ch.ro 0 (Sl alist_0 list_0 clist_0) list_0] ∧ Md (fun i => (cov []) i ∨ (fun b => blk (Sl (some ⟨b3, 0, none⟩) ([] : List (Int × Int)) 0) = some b) i) σ2 σm] [fun ((b3, a6, c7, b9) : (Nat) × (Option Addr) × (Nat) × (Nat)) => (Sl (some ⟨b3, 0, none⟩) ([] : List (Int × Int)) 0), fun ((b3, a6, c7, b9) : (Nat) × (Option Addr) × (Nat) × (Nat)) => (Sl alist_0 list_0 clist_0), fun ((b3, a6, c7, b9) : (Nat) × (Option Addr) × (Nat) × (Nat)) => (Sl a6 xs4 c7), fun ((b3, a6, c7, b9) : (Nat) × (Option Addr) × (Nat) × (Nat)) => (.agg #[(I h_1.1), (I h_1.2)]), fun ((b3, a6, c7, b9) : (Nat) × (Option Addr) × (Nat) × (Nat)) => (Sl (some ⟨b9, 0, none⟩) ([(h_1.1, h_1.2)] : List (Int × Int)) 1)] (0, none, 0, 0) (by kernel_rfl) (by kernel_rfl) ?_ ?_ ?_
 ·intro σm m0
  exact ⟨H.grow (m0.mono fun _ h => h.elim), m0⟩
 ·refine all_cons (by
    refine ⟨?_, ?_⟩
    ·rintro ⟨b3, a6, c7, b9⟩ ρ σm hJ hoff hdep
     obtain ⟨H, m⟩ := id hJ
     refine dp_ex wn (ex_buildSlice (el := n0) (xs := ([] : List (Int × Int))) (ps := []) (cs := []) H hn0 Try.underlying46 ti87 rfl rfl (by kernel_rfl) (.nil) rfl) ?_
     rintro _ σq ⟨b3x, rfl, H2, m2⟩
     exact ⟨_, (b3x, a6, c7, b9), rfl, rfl, ⟨H2.sel' [0, 1, 2] rfl rfl, m.comp0 m2⟩, stab [1, 3, 4] (by kernel_rfl) ⟨rfl, rfl, rfl, trivial⟩⟩
    refine ⟨?_, ?_⟩
    ·rintro ⟨b3, a6, c7, b9⟩ ρ σm hJ hoff hdep
     obtain ⟨H, m⟩ := id hJ
     refine dp_ex wn (ex_buildSlice (el := n0) (xs := ([] : List (Int × Int))) (ps := []) (cs := []) H hn0 Try.underlying46 ti87 rfl rfl (by kernel_rfl) (.nil) rfl) ?_
     rintro _ σq ⟨b3x, rfl, H2, m2⟩
     exact ⟨_, (b3x, a6, c7, b9), rfl, rfl, ⟨H2.sel' [1, 0, 2, 3] rfl rfl, m.comp0 m2⟩, stab [1, 3, 4] (by kernel_rfl) ⟨rfl, rfl, rfl, trivial⟩⟩
    trivial) ?_
  refine ac rfl (by
    intro k; rintro ⟨b3, a6, c7, b9⟩ ρ σm hJ hoff hdep
    have e0 := look_off (N := 58) (hoff 0 rfl) rfl
    exact dp_v (v := (Sl alist_0 list_0 clist_0)) wn (rv_move e0) rfl hJ) ?_
  refine all_cons (by
    refine ⟨?_, ?_⟩
    ·rintro ⟨b3, a6, c7, b9⟩ ρ σm hJ hoff hdep
     have e10 := hdep 0 rfl rfl 10 rfl
     have e11 := hdep 1 rfl rfl 11 rfl
     obtain ⟨H, m⟩ := id hJ
     refine dp_ex wn (ex_append H (i := 0) rfl Try.underlying46 Try.underlying46 ti87 rfl rfl (by decide) ((H.ro 2 rfl).rd.sc) hx5 hn0 e10 e11) ?_
     rintro _ σq ⟨a6x, c7x, rfl, H2, m2⟩
     exact ⟨_, (b3, a6x, c7x, b9), rfl, rfl, ⟨H2.sel' [0, 1, 2] rfl rfl, m.comp m2⟩, stab [0, 1, 3, 4] (by kernel_rfl) ⟨rfl, rfl, rfl, rfl, trivial⟩⟩
    refine ⟨?_, ?_⟩
    ·rintro ⟨b3, a6, c7, b9⟩ ρ σm hJ hoff hdep
     have e10 := hdep 0 rfl rfl 10 rfl
     have e11 := hdep 1 rfl rfl 11 rfl
     obtain ⟨H, m⟩ := id hJ
     refine dp_ex wn (ex_append H (i := 1) rfl Try.underlying46 Try.underlying46 ti87 rfl rfl (by decide) ((H.ro 3 rfl).rd.sc) hx5 hn0 e10 e11) ?_
     rintro _ σq ⟨a6x, c7x, rfl, H2, m2⟩
     exact ⟨_, (b3, a6x, c7x, b9), rfl, rfl, ⟨H2.sel' [1, 0, 2, 3] rfl rfl, m.comp m2⟩, stab [0, 1, 3, 4] (by kernel_rfl) ⟨rfl, rfl, rfl, rfl, trivial⟩⟩
    trivial) ?_
  refine all_cons (by
    refine ⟨?_, ?_⟩
    ·rintro ⟨b3, a6, c7, b9⟩ ρ σm hJ hoff hdep
     have e4 := look_off (N := 58) (hoff 4 rfl) rfl
     obtain ⟨H, m⟩ := id hJ
     have hc8 := H.cells 0 rfl
     exact dp_v (v := (.agg #[(I h_1.1), (I h_1.2)])) wn (rv_load (cs := [(I h_1.1), (I h_1.2)]) Try.underlying87 rfl ti87 e4 rfl hc8) rfl hJ
    refine ⟨?_, ?_⟩
    ·rintro ⟨b3, a6, c7, b9⟩ ρ σm hJ hoff hdep
     have e4 := look_off (N := 58) (hoff 4 rfl) rfl
     obtain ⟨H, m⟩ := id hJ
     have hc8 := H.cells 1 rfl
     exact dp_v (v := (.agg #[(I h_1.1), (I h_1.2)])) wn (rv_load (cs := [(I h_1.1), (I h_1.2)]) Try.underlying87 rfl ti87 e4 rfl hc8) rfl hJ
    refine ⟨?_, ?_⟩
    ·rintro ⟨b3, a6, c7, b9⟩ ρ σm hJ hoff hdep
     have e4 := look_off (N := 58) (hoff 4 rfl) rfl
     obtain ⟨H, m⟩ := id hJ
     have hc8 := H.cells 1 rfl
     exact dp_v (v := (.agg #[(I h_1.1), (I h_1.2)])) wn (rv_load (cs := [(I h_1.1), (I h_1.2)]) Try.underlying87 rfl ti87 e4 rfl hc8) rfl hJ
    trivial) ?_
  refine all_cons (by
    refine ⟨?_, ?_⟩
    ·rintro ⟨b3, a6, c7, b9⟩ ρ σm hJ hoff hdep
     have e13 : look 58 ρ 13 = (.agg #[(I h_1.1), (I h_1.2)]) := hdep 3 rfl rfl 13 rfl
     obtain ⟨H, m⟩ := id hJ
     refine dp_ex wn (ex_buildSlice (el := n0) (xs := ([(h_1.1, h_1.2)] : List (Int × Int))) (ps := [(0, (.agg #[(I h_1.1), (I h_1.2)]))]) (cs := [(I h_1.1), (I h_1.2)]) H hn0 Try.underlying46 ti87 rfl (by show [(0, look 58 ρ 13)] = _; rw [e13]) (by kernel_rfl) (.cons (c := [(I h_1.1), (I h_1.2)]) ⟨[(I h_1.1)], [(I h_1.2)], rfl, rfl, rfl⟩ (.nil)) rfl) ?_
     rintro _ σq ⟨b9x, rfl, H2, m2⟩
     exact ⟨_, (b3, a6, c7, b9x), rfl, rfl, ⟨H2.sel' [0, 1, 2] rfl rfl, m.comp0 m2⟩, stab [0, 1, 2, 3] (by kernel_rfl) ⟨rfl, rfl, rfl, rfl, trivial⟩⟩
    refine ⟨?_, ?_⟩
    ·rintro ⟨b3, a6, c7, b9⟩ ρ σm hJ hoff hdep
     have e13 : look 58 ρ 13 = (.agg #[(I h_1.1), (I h_1.2)]) := hdep 3 rfl rfl 13 rfl
     obtain ⟨H, m⟩ := id hJ
     refine dp_ex wn (ex_buildSlice (el := n0) (xs := ([(h_1.1, h_1.2)] : List (Int × Int))) (ps := [(0, (.agg #[(I h_1.1), (I h_1.2)]))]) (cs := [(I h_1.1), (I h_1.2)]) H hn0 Try.underlying46 ti87 rfl (by show [(0, look 58 ρ 13)] = _; rw [e13]) (by kernel_rfl) (.cons (c := [(I h_1.1), (I h_1.2)]) ⟨[(I h_1.1)], [(I h_1.2)], rfl, rfl, rfl⟩ (.nil)) rfl) ?_
     rintro _ σq ⟨b9x, rfl, H2, m2⟩
     exact ⟨_, (b3, a6, c7, b9x), rfl, rfl, ⟨H2.sel' [0, 1, 2, 3] rfl rfl, m.comp0 m2⟩, stab [0, 1, 2, 3] (by kernel_rfl) ⟨rfl, rfl, rfl, rfl, trivial⟩⟩
    refine ⟨?_, ?_⟩
    ·rintro ⟨b3, a6, c7, b9⟩ ρ σm hJ hoff hdep
     have e13 : look 58 ρ 13 = (.agg #[(I h_1.1), (I h_1.2)]) := hdep 3 rfl rfl 13 rfl
     obtain ⟨H, m⟩ := id hJ
     refine dp_ex wn (ex_buildSlice (el := n0) (xs := ([(h_1.1, h_1.2)] : List (Int × Int))) (ps := [(0, (.agg #[(I h_1.1), (I h_1.2)]))]) (cs := [(I h_1.1), (I h_1.2)]) H hn0 Try.underlying46 ti87 rfl (by show [(0, look 58 ρ 13)] = _; rw [e13]) (by kernel_rfl) (.cons (c := [(I h_1.1), (I h_1.2)]) ⟨[(I h_1.1)], [(I h_1.2)], rfl, rfl, rfl⟩ (.nil)) rfl) ?_
     rintro _ σq ⟨b9x, rfl, H2, m2⟩
     exact ⟨_, (b3, a6, c7, b9x), rfl, rfl, ⟨H2.sel' [0, 1, 2, 3] rfl rfl, m.comp0 m2⟩, stab [0, 1, 2, 3] (by kernel_rfl) ⟨rfl, rfl, rfl, rfl, trivial⟩⟩
    trivial) ?_
  exact all_nil
 ·rintro ⟨b3, a6, c7, b9⟩ ρ σ10 hJ hoff hrel
  have e2 := look_off (N := 58) (hoff 2 rfl) rfl
  have e12 := hrel 2 rfl 12 rfl
  have e14 := hrel 4 rfl 14 rfl
  obtain ⟨H, -⟩ := (show Hp S0 σ0 σ10 [Ch.own n0 n0 (Sl (some ⟨b9, 0, none⟩) ([(h_1.1, h_1.2)] : List (Int × Int)) 1) ([(h_1.1, h_1.2)] : List (Int × Int)), Ch.own n0 n0 (Sl a6 xs4 c7) xs4, Ch.bx n0 b1 0 [(I h_1.1), (I h_1.2)] [] [], Ch.ro 0 (Sl alist_0 list_0 clist_0) list_0] ∧ Md (fun i => (cov []) i ∨ (fun b => blk (Sl (some ⟨b3, 0, none⟩) ([] : List (Int × Int)) 0) = some b) i) σ2 σ10 from hJ)
  clear hJ Hs
  rw [fr_lookL (L := [(2, (I k_2)), (12, (Sl a6 xs4 c7)), (14, (Sl (some ⟨b9, 0, none⟩) ([(h_1.1, h_1.2)] : List (Int × Int)) 1))]) ⟨e2, e12, e14, trivial⟩]
  clear hoff hrel e2 e12 e14
  obtain ⟨xs11, hx12, h'⟩ := bind_some h
  clear h
  have h := h'; clear h'
  refine st_ex (ex_append H (i := 1) rfl Try.underlying46 Try.underlying46 ti87 rfl rfl (by decide) (H.own 0 rfl).rd hx12 hn0 rfl rfl) wn ?_
  rintro _ σ15 ⟨a13, c14, rfl, H, -⟩
  refine st (v := (Sl a13 xs11 c14)) (rv_assign rfl) ?_
  refine w_end ?_
  refine q_then ?_
  refine c_seq ?_
  refine c_seq ?_
  refine rg ?_
  refine st (v := (Sl a13 xs11 c14)) (rv_move rfl) ?_
  refine st (v := (I (xs11.length : Int))) (rv_len Try.underlying46 rfl) ?_
  refine st (v := (I (w64 ((xs11.length : Int) - 1)))) (rv_sub (a := (xs11.length : Int)) (b := 1) rfl rfl) ?_
  refine st (v := (I (w64 ((xs11.length : Int) - 1)))) (rv_assign rfl) ?_
  refine w_end ?_
  refine q_then ?_
  obtain ⟨o16, hj, h'⟩ := bind_some h
  clear h
  refine c_cut (fun e a w => e = .normal ∧ ∃ (ρ : Nat → Value) (σ : St), a = fr 58 (updL ρ [(2, (I k_2)), (7, (Sl a13 o16 c14))]) ∧ w = σ.w ∧ Hp S0 σ0 σ [Ch.own n0 n0 (Sl a13 o16 c14) o16] ∧ o16.length = xs11.length) ?_ ?_
  ·clear h'
   rename _ = some o16 => h
   refine c_blk ?_
   refine wp_loopM _ h (fun s17 a w => ∃ (ρ : Nat → Value) (σ : St), a = fr 58 (updL ρ [(2, (I k_2)), (7, (Sl a13 s17.1 c14)), (8, (I s17.2))]) ∧ w = σ.w ∧ Hp S0 σ0 σ [Ch.own n0 n0 (Sl a13 s17.1 c14) s17.1] ∧ s17.1.length = xs11.length) ⟨_, σ15, fr_join ⟨rfl, rfl, rfl, trivial⟩, rfl, H.sel' [0] rfl rfl, rfl⟩ ?_
   clear h H
   rintro s17 a w o ⟨ρ, σ18, rfl, rfl, H, hn19⟩ h hres
   refine c_seq ?_
   refine c_seq ?_
   obtain ⟨o20, hj, h'⟩ := bind_some h
   clear h
   refine c_cut (fun e a w => e = .normal ∧ ∃ (ρ : Nat → Value) (σ : St), a = fr 58 (updL ρ [(2, (I k_2)), (7, (Sl a13 s17.1 c14)), (8, (I s17.2)), (32, (B o20))]) ∧ w = σ.w ∧ Hp S0 σ0 σ [Ch.own n0 n0 (Sl a13 s17.1 c14) s17.1]) ?_ ?_
   ·clear h'
    rename _ = some o20 => h
    refine rgP (σ := σ18) 12 (by kernel_rfl) (by kernel_rfl) (by kernel_rfl) ?_
    refine sq (v := (I s17.2)) (rv_move rfl) ?_
    refine sq (v := (B (decide (0 < s17.2)))) (rv_gtr (a := s17.2) (b := 0) rfl rfl) ?_
    refine sq (v := (B (decide (0 < s17.2)))) (rv_move rfl) ?_
    rcases Bool.eq_false_or_eq_true (decide (0 < s17.2)) with hb21 | hb21
    ·replace h := bif_t hb21 h
     refine sq_g (v := (Sl a13 s17.1 c14)) (congrArg some hb21) (rv_move rfl) ?_
     refine sq_g (v := (I s17.2)) (congrArg some hb21) (rv_move rfl) ?_
     obtain ⟨x22, hx23, h'⟩ := bind_some h
     clear h
     have h := h'; clear h'
     obtain ⟨b25, o26, hi24, -⟩ := (H.own 0 rfl).ix hx23
     refine sq_g (v := (pt b25 o26)) (congrArg some hb21) (rv_ix Try.underlying46 ti87 rfl rfl hi24) ?_
     obtain ⟨_, ⟨_, _, rfl, rfl, rfl⟩, hl27, hc28⟩ := ((H.own 0 rfl).at hx23 hi24).cells
     refine sq_g (v := (.agg #[(I x22.1), (I x22.2)])) (congrArg some hb21) (rv_load Try.underlying87 rfl ti87 rfl hl27 hc28) ?_
     refine sq_g (v := (Sl a13 s17.1 c14)) (congrArg some hb21) (rv_move rfl) ?_
     refine sq_g (v := (I s17.2)) (congrArg some hb21) (rv_move rfl) ?_
     refine sq_g (v := (I (w64 (s17.2 - 1)))) (congrArg some hb21) (rv_sub (a := s17.2) (b := 1) rfl rfl) ?_
     obtain ⟨x29, hx30, h'⟩ := bind_some h
     clear h
     have h := h'; clear h'
     obtain ⟨b32, o33, hi31, -⟩ := (H.own 0 rfl).ix hx30
     refine sq_g (v := (pt b32 o33)) (congrArg some hb21) (rv_ix Try.underlying46 ti87 rfl rfl hi31) ?_
     obtain ⟨_, ⟨_, _, rfl, rfl, rfl⟩, hl34, hc35⟩ := ((H.own 0 rfl).at hx30 hi31).cells
     refine sq_g (v := (.agg #[(I x29.1), (I x29.2)])) (congrArg some hb21) (rv_load Try.underlying87 rfl ti87 rfl hl34 hc35) ?_
     refine sq_end ?_
     intro σ36 hm37
     replace H := H.grow (hm37.mono fun _ h => h); clear hm37
     obtain ⟨r38, hx39, h'⟩ := bind_some h
     clear h
     have h := h'; clear h'
     have hc40 := c_spec_nearer hx39
     refine st_call (cx_call hc40 (ent_f hc40.fn rfl) hn0 (show Hp S0 σ0 _ ([] ++ [Ch.own n0 n0 (Sl a13 s17.1 c14) s17.1]) from (H.sel' [0] rfl rfl))) (wanted_yes rfl (by exact (congrArg some hb21))) ?_
     rintro _ σ41 ⟨_, ⟨rfl, rfl⟩, H, -⟩
     replace H : Hp S0 σ0 σ41 [Ch.own n0 n0 (Sl a13 s17.1 c14) s17.1] := H
     refine st (v := (B r38)) (rv_pick_t (congrArg B hb21) rfl) ?_
     refine w_end ?_
     obtain rfl := Option.some.inj h
     exact ⟨rfl, _, σ41, fr_join ⟨rfl, rfl, rfl, rfl, trivial⟩, rfl, H.sel' [0] rfl rfl⟩
    ·replace h := bif_f hb21 h
     refine sq_skip (congrArg some hb21) ?_
     refine sq_skip (congrArg some hb21) ?_
     refine sq_skip (congrArg some hb21) ?_
     refine sq_skip (congrArg some hb21) ?_
     refine sq_skip (congrArg some hb21) ?_
     refine sq_skip (congrArg some hb21) ?_
     refine sq_skip (congrArg some hb21) ?_
     refine sq_skip (congrArg some hb21) ?_
     refine sq_skip (congrArg some hb21) ?_
     refine sq_end ?_
     intro σ42 hm43
     replace H := H.grow (hm43.mono fun _ h => h); clear hm43
     refine st_skip (congrArg some hb21) ?_
     refine st (v := (B false)) (rv_pick_f (congrArg B hb21) rfl) ?_
     refine w_end ?_
     obtain rfl := Option.some.inj h
     exact ⟨rfl, _, σ42, fr_join ⟨rfl, rfl, rfl, rfl, trivial⟩, rfl, H.sel' [0] rfl rfl⟩
   ·clear hj
    have h := h'
    clear h' H
    rintro e a w ⟨rfl, ρ, σ44, rfl, rfl, H⟩
    refine q_then ?_
    refine cd_cond o20 rfl (fun hb45 => ?_) (fun hb45 => ?_)
    ·replace h := bif_t hb45 h
     refine c_skip ?_
     refine q_then ?_
     refine c_seq ?_
     refine c_blk ?_
     refine c_seq ?_
     refine rg ?_
     refine st (v := (Sl a13 s17.1 c14)) (rv_move rfl) ?_
     refine st (v := (I s17.2)) (rv_move rfl) ?_
     obtain ⟨x46, hx47, h'⟩ := bind_some h
     clear h
     have h := h'; clear h'
     obtain ⟨b49, o50, hi48, -⟩ := (H.own 0 rfl).ix hx47
     refine st (v := (pt b49 o50)) (rv_ix Try.underlying46 ti87 rfl rfl hi48) ?_
     obtain ⟨_, ⟨_, _, rfl, rfl, rfl⟩, hl51, hc52⟩ := ((H.own 0 rfl).at hx47 hi48).cells
     refine st (v := (.agg #[(I x46.1), (I x46.2)])) (rv_load Try.underlying87 rfl ti87 rfl hl51 hc52) ?_
     refine st_ex (ex_alloc (cs := [(I 0), (I 0)]) H hn0 ti87 rfl) wn ?_
     rintro _ σ54 ⟨b53, rfl, H, -⟩
     refine st_exS (ex_store_box (k := 0) (cs := [(I 0), (I 0)]) (vs := [(I x46.1), (I x46.2)]) (cs' := [(I x46.1), (I x46.2)]) H (i := 0) rfl ti87 rfl rfl rfl rfl rfl (Nat.le_of_ble_eq_true rfl) (by simp [plain]) rfl) wn ?_
     rintro σ55 ⟨H, -⟩
     refine w_end ?_
     refine q_then ?_
     refine c_seq ?_
     refine rg ?_
     refine st (v := (Sl a13 s17.1 c14)) (rv_move rfl) ?_
     refine st (v := (I s17.2)) (rv_move rfl) ?_
     refine st (v := (Sl a13 s17.1 c14)) (rv_move rfl) ?_
     refine st (v := (I s17.2)) (rv_move rfl) ?_
     refine st (v := (I (w64 (s17.2 - 1)))) (rv_sub (a := s17.2) (b := 1) rfl rfl) ?_
     obtain ⟨x56, hx57, h'⟩ := bind_some h
     clear h
     have h := h'; clear h'
     obtain ⟨b59, o60, hi58, -⟩ := (H.own 1 rfl).ix hx57
     refine st (v := (pt b59 o60)) (rv_ix Try.underlying46 ti87 rfl rfl hi58) ?_
     obtain ⟨_, ⟨_, _, rfl, rfl, rfl⟩, hl61, hc62⟩ := ((H.own 1 rfl).at hx57 hi58).cells
     refine st (v := (.agg #[(I x56.1), (I x56.2)])) (rv_load Try.underlying87 rfl ti87 rfl hl61 hc62) ?_
     obtain ⟨x63, hx64, h'⟩ := bind_some h
     clear h
     have h := h'; clear h'
     obtain ⟨b66, o67, hi65, -⟩ := (H.own 1 rfl).ix hx64
     refine st (v := (pt b66 o67)) (rv_ix Try.underlying46 ti87 rfl rfl hi65) ?_
     refine st_exS (ex_store_own (e' := (x56.1, x56.2)) (vs := [(I x56.1), (I x56.2)]) (k := 0) H (i := 1) rfl ti87 hx64 hi65 rfl rfl rfl rfl rfl (Nat.le_of_ble_eq_true rfl) (by simp [plain]) (by rintro _ ⟨_, _, rfl, rfl, rfl⟩; exact ⟨[(I x56.1)], [(I x56.2)], rfl, rfl, rfl⟩)) wn ?_
     rintro σ68 ⟨H, -⟩
     have hsl : (Sl a13 s17.1 c14) = (Sl a13 (s17.1.set s17.2.toNat (x56.1, x56.2)) c14) := sl_len List.length_set.symm
     rw [hsl]; rw [hsl] at H; clear hsl
     refine w_end ?_
     refine q_then ?_
     refine rg ?_
     refine st (v := (Sl a13 (s17.1.set s17.2.toNat (x56.1, x56.2)) c14)) (rv_move rfl) ?_
     refine st (v := (I s17.2)) (rv_move rfl) ?_
     refine st (v := (I (w64 (s17.2 - 1)))) (rv_sub (a := s17.2) (b := 1) rfl rfl) ?_
     have hc69 := H.cells 1 rfl
     refine st (v := (.agg #[(I x46.1), (I x46.2)])) (rv_load (cs := [(I x46.1), (I x46.2)]) Try.underlying87 rfl ti87 rfl rfl hc69) ?_
     obtain ⟨x70, hx71, h'⟩ := bind_some h
     clear h
     have h := h'; clear h'
     obtain ⟨b73, o74, hi72, -⟩ := (H.own 0 rfl).ix hx71
     refine st (v := (pt b73 o74)) (rv_ix Try.underlying46 ti87 rfl rfl hi72) ?_
     refine st_exS (ex_store_own (e' := (x46.1, x46.2)) (vs := [(I x46.1), (I x46.2)]) (k := 0) H (i := 0) rfl ti87 hx71 hi72 rfl rfl rfl rfl rfl (Nat.le_of_ble_eq_true rfl) (by simp [plain]) (by rintro _ ⟨_, _, rfl, rfl, rfl⟩; exact ⟨[(I x46.1)], [(I x46.2)], rfl, rfl, rfl⟩)) wn ?_
     rintro σ75 ⟨H, -⟩
     have hsl : (Sl a13 (s17.1.set s17.2.toNat (x56.1, x56.2)) c14) = (Sl a13 ((s17.1.set s17.2.toNat (x56.1, x56.2)).set (w64 (s17.2 - 1)).toNat (x46.1, x46.2)) c14) := sl_len List.length_set.symm
     rw [hsl]; rw [hsl] at H; clear hsl
     refine w_end ?_
     refine q_blk ?_
     refine q_then ?_
     refine rg ?_
     refine st (v := (I s17.2)) (rv_move rfl) ?_
     refine st (v := (I (w64 (s17.2 - 1)))) (rv_sub (a := s17.2) (b := 1) rfl rfl) ?_
     refine st (v := (I (w64 (s17.2 - 1)))) (rv_assign rfl) ?_
     refine w_end ?_
     refine q_then ?_
     obtain rfl := Option.some.inj h
     exact ⟨_, rfl, _, σ75, fr_join ⟨rfl, rfl, rfl, trivial⟩, rfl, H.sel' [0] rfl rfl, (List.length_set.trans (List.length_set.trans hn19))⟩
    ·replace h := bif_f hb45 h
     refine c_exit ?_
     refine q_then_x ?_
     refine q_then_x ?_
     refine q_blk_hit ?_
     obtain rfl := Option.some.inj h
     obtain rfl := hres _ rfl
     exact ⟨rfl, _, σ44, fr_join ⟨rfl, rfl, trivial⟩, rfl, H.sel' [0] rfl rfl, hn19⟩
  ·clear hj
   have h := h'
   clear h' H
   rintro e a w ⟨rfl, ρ, σ76, rfl, rfl, H, hn77⟩
   refine q_then ?_
   refine c_seq ?_
   refine rg ?_
   refine st (v := (Sl a13 o16 c14)) (rv_move rfl) ?_
   refine st (v := (I k_2)) (rv_move rfl) ?_
   refine st (v := (Sl a13 o16 c14)) (rv_move rfl) ?_
   refine st (v := (I (o16.length : Int))) (rv_len Try.underlying46 rfl) ?_
   refine st (v := (I (min k_2 (o16.length : Int)))) (rv_min rfl rfl) ?_
   obtain ⟨xs78, hx79, h'⟩ := bind_some h
   clear h
   have h := h'; clear h'
   obtain ⟨a80, c81, hs82, hR83, hb84⟩ := (H.own 0 rfl).slice hx79
   replace H := (H.front (i := 0) rfl).turn (d := Ch.own n0 n0 (Sl a80 xs78 c81) xs78) (fun _ => hR83) hb84; clear hR83 hb84
   refine st (v := (Sl a80 xs78 c81)) (rv_slice_h Try.underlying46 ti87 hs82 rfl rfl) ?_
   refine st (v := (Sl a80 xs78 c81)) (rv_assign rfl) ?_
   refine w_end ?_
   refine q_then ?_
   refine c_ret ?_
   obtain rfl := Option.some.inj h
   exact fin_ret (v := (Sl a80 xs78 c81)) (results_ok Try.results92 (res_tmp (v := (Sl a80 xs78 c81)) rfl res_nil) rfl) ⟨a80, c81, rfl, rfl⟩ (H.sel' [0] rfl rfl)

end Go.Vs
