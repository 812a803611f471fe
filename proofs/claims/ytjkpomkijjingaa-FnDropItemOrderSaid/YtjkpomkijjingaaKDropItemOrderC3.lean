/- The functions compute what their models say. -/
import Derived.Test.YtjkpomkijjingaaKDropItemOrderC2
set_option linter.unusedVariables false
set_option linter.unusedSimpArgs false
set_option maxRecDepth 20000
namespace Go.Vs
open Go Go.Proofs
attribute [local irreducible] Code.wp wpList wpQuiet Calls

theorem c_spec_someKey {r_0 : (List UInt8) × Int} {list_1 : List (Int × (List Int) × Int)} {ar_0_0 : Option Addr} {cr_0_0 : Nat} {lor_0 br_0 or_0 : Nat} {prer_0 sufr_0 : List Value} {alist_1 : Option Addr} {clist_1 : Nat} {r : Int × ((List UInt8) × Int)} (h : M.spec_someKey r_0 list_1 = some r) :
    Cal2 Try.prog 42 [(pt br_0 or_0), (Sl alist_1 list_1 clist_1)] [Ch.bx lor_0 br_0 or_0 [(Sl ar_0_0 r_0.1 cr_0_0), (I r_0.2)] prer_0 sufr_0, Ch.ro 0 (Sl ar_0_0 r_0.1 cr_0_0) r_0.1, Ch.ro 0 (Sl alist_1 list_1 clist_1) list_1] (fun n0 v L => ∃ (az1 : Option Addr), ∃ (cz2 : Nat), v = (I r.1) ∧ L = [Ch.bx lor_0 br_0 or_0 [(Sl az1 r.2.1 cz2), (I r.2.2)] prer_0 sufr_0, Ch.ro 0 (Sl az1 r.2.1 cz2) r.2.1]) := by
  refine cal2 (n := 24) Try.func42 rfl rfl rfl rfl ?_
  intro S0 σ0 n0 hn0 H
  unfold M.spec_someKey at h
  refine c_seq ?_
  refine rg ?_
  refine st (v := (I 0)) (rv_assign rfl) ?_
  refine w_end ?_
  refine q_then ?_
  refine c_seq ?_
  refine c_seq ?_
  obtain ⟨o1, hj, h'⟩ := bind_some h
  clear h
  refine c_cut (fun e a w => e = .normal ∧ ∃ (ρ : Nat → Value) (σ : St) (aj1 : Option Addr) (cj2 : Nat), a = fr 24 (updL ρ [(0, (pt br_0 or_0)), (1, (Sl alist_1 list_1 clist_1)), (12, (B o1.2))]) ∧ w = σ.w ∧ Hp S0 σ0 σ [Ch.bx lor_0 br_0 or_0 [(Sl aj1 o1.1.1 cj2), (I o1.1.2)] prer_0 sufr_0, Ch.ro 0 (Sl aj1 o1.1.1 cj2) o1.1.1, Ch.ro 0 (Sl alist_1 list_1 clist_1) list_1]) ?_ ?_
  · clear h'
    rename _ = some o1 => h
    refine rg ?_
    refine st (v := (Sl alist_1 list_1 clist_1)) (rv_move rfl) ?_
    refine st (v := (I (list_1.length : Int))) (rv_len Try.underlying23 rfl) ?_
    refine st (v := (B (decide (0 < (list_1.length : Int))))) (rv_gtr (a := (list_1.length : Int)) (b := 0) rfl rfl) ?_
    refine st (v := (B (decide (0 < (list_1.length : Int))))) (rv_move rfl) ?_
    rcases Bool.eq_false_or_eq_true (decide (0 < (list_1.length : Int))) with hb2 | hb2
    · replace h := bif_t hb2 h
      refine st_g (v := (pt br_0 or_0)) (congrArg some hb2) (rv_move rfl) ?_
      obtain ⟨r3, hx4, h'⟩ := bind_some h
      clear h
      have h := h'; clear h'
      have hc5 := c_spec_reader_pick (lor_0 := lor_0) (br_0 := br_0) (or_0 := or_0) (prer_0 := prer_0) (sufr_0 := sufr_0) (ar_0_0 := ar_0_0) (cr_0_0 := cr_0_0) hx4
      refine st_call (cx_call hc5 (ent_f hc5.fn rfl) hn0 (show Hp S0 σ0 _ ([Ch.bx lor_0 br_0 or_0 [(Sl ar_0_0 r_0.1 cr_0_0), (I r_0.2)] prer_0 sufr_0, Ch.ro 0 (Sl ar_0_0 r_0.1 cr_0_0) r_0.1] ++ [Ch.ro 0 (Sl ar_0_0 r_0.1 cr_0_0) r_0.1, Ch.ro 0 (Sl alist_1 list_1 clist_1) list_1]) from (H.sel' [0, 1, 1, 2] rfl rfl))) (wanted_yes rfl (by exact (congrArg some hb2))) ?_
      rintro _ σ8 ⟨_, ⟨a6, c7, rfl, rfl⟩, H, -⟩
      replace H : Hp S0 σ0 σ8 [Ch.bx lor_0 br_0 or_0 [(Sl a6 r3.2.1 c7), (I r3.2.2)] prer_0 sufr_0, Ch.ro 0 (Sl a6 r3.2.1 c7) r3.2.1, Ch.ro 0 (Sl ar_0_0 r_0.1 cr_0_0) r_0.1, Ch.ro 0 (Sl alist_1 list_1 clist_1) list_1] := H
      refine st_g (v := (B (decide (0 < r3.1)))) (congrArg some hb2) (rv_gtr (a := r3.1) (b := 0) rfl rfl) ?_
      refine st (v := (B (decide (0 < r3.1)))) (rv_pick_t (congrArg B hb2) rfl) ?_
      refine w_end ?_
      obtain rfl := Option.some.inj h
      exact ⟨rfl, _, σ8, a6, c7, fr_join ⟨rfl, rfl, rfl, trivial⟩, rfl, H.sel' [0, 1, 3] rfl rfl⟩
    · replace h := bif_f hb2 h
      refine st_skip (congrArg some hb2) ?_
      refine st_skip (congrArg some hb2) ?_
      refine st_skip (congrArg some hb2) ?_
      refine st (v := (B false)) (rv_pick_f (congrArg B hb2) rfl) ?_
      refine w_end ?_
      obtain rfl := Option.some.inj h
      exact ⟨rfl, _, σ0, ar_0_0, cr_0_0, fr_join ⟨rfl, rfl, rfl, trivial⟩, rfl, H.sel' [0, 1, 2] rfl rfl⟩
  · clear hj
    have h := h'
    clear h' H
    rintro e a w ⟨rfl, ρ, σ9, a10, c11, rfl, rfl, H⟩
    refine q_then ?_
    refine cd_cond o1.2 rfl (fun hb12 => ?_) (fun hb12 => ?_)
    · replace h := bif_t hb12 h
      refine c_seq ?_
      refine rg ?_
      refine st (v := (Sl alist_1 list_1 clist_1)) (rv_move rfl) ?_
      refine st (v := (pt br_0 or_0)) (rv_move rfl) ?_
      refine st (v := (Sl alist_1 list_1 clist_1)) (rv_move rfl) ?_
      refine st (v := (I (list_1.length : Int))) (rv_len Try.underlying23 rfl) ?_
      obtain ⟨r13, hx14, h'⟩ := bind_some h
      clear h
      have h := h'; clear h'
      have hc15 := c_spec_reader_pick (lor_0 := lor_0) (br_0 := br_0) (or_0 := or_0) (prer_0 := prer_0) (sufr_0 := sufr_0) (ar_0_0 := a10) (cr_0_0 := c11) hx14
      refine st_call (cx_call hc15 (ent_f hc15.fn rfl) hn0 (show Hp S0 σ0 _ ([Ch.bx lor_0 br_0 or_0 [(Sl a10 o1.1.1 c11), (I o1.1.2)] prer_0 sufr_0, Ch.ro 0 (Sl a10 o1.1.1 c11) o1.1.1] ++ [Ch.ro 0 (Sl a10 o1.1.1 c11) o1.1.1, Ch.ro 0 (Sl alist_1 list_1 clist_1) list_1]) from (H.sel' [0, 1, 1, 2] rfl rfl))) (wanted_none _ rfl _) ?_
      rintro _ σ18 ⟨_, ⟨a16, c17, rfl, rfl⟩, H, -⟩
      replace H : Hp S0 σ0 σ18 [Ch.bx lor_0 br_0 or_0 [(Sl a16 r13.2.1 c17), (I r13.2.2)] prer_0 sufr_0, Ch.ro 0 (Sl a16 r13.2.1 c17) r13.2.1, Ch.ro 0 (Sl a10 o1.1.1 c11) o1.1.1, Ch.ro 0 (Sl alist_1 list_1 clist_1) list_1] := H
      obtain ⟨x19, hx20, h'⟩ := bind_some h
      clear h
      have h := h'; clear h'
      obtain ⟨b22, o23, hi21, -⟩ := (H.ro 3 rfl).ix hx20
      refine st (v := (pt b22 o23)) (rv_ix Try.underlying23 ti29 rfl rfl hi21) ?_
      refine st (v := (pt b22 (o23 + 0))) (rv_fieldAddr (off := 0) (ft := 3) Try.underlying29 rfl ti3 rfl rfl) ?_
      have hc24 := ((H.ro 3 rfl).at hx20 hi21).fst.int
      refine st (v := (I x19.1)) (rv_load1 Try.underlying3 rfl rfl hc24) ?_
      refine st (v := (I x19.1)) (rv_assign rfl) ?_
      refine w_end ?_
      refine q_then ?_
      refine c_ret ?_
      refine q_then_r ?_
      obtain rfl := Option.some.inj h
      exact fin_ret (v := (I x19.1)) (results_ok Try.results42 (res_tmp (v := (I x19.1)) rfl res_nil) rfl) ⟨a16, c17, rfl, rfl⟩ (H.sel' [0, 1] rfl rfl)
    · replace h := bif_f hb12 h
      refine c_skip ?_
      refine q_then ?_
      refine c_seq ?_
      refine rg ?_
      refine st (v := (pt br_0 or_0)) (rv_move rfl) ?_
      refine st_ex (ex_buildSlice (el := n0) (xs := ([5, 99, 0, 31, -1] : List Int)) (ps := [(0, (I 5)), (1, (I 99)), (2, (I 0)), (3, (I 31)), (4, (I (-1)))]) (cs := [(I 5), (I 99), (I 0), (I 31), (I (-1))]) H hn0 Try.underlying27 ti3 rfl rfl (by kernel_rfl) (.cons (c := [(I 5)]) rfl (.cons (c := [(I 99)]) rfl (.cons (c := [(I 0)]) rfl (.cons (c := [(I 31)]) rfl (.cons (c := [(I (-1))]) rfl (.nil)))))) rfl) (wanted_none _ rfl _) ?_
      rintro _ σ26 ⟨b25, rfl, H, -⟩
      obtain ⟨σ27, hw28, H, -⟩ := H.pub 0 rfl (Nat.le_refl _)
      rw [← hw28]; clear hw28
      replace H := H.roLow 0 0 rfl (Nat.zero_le _)
      obtain ⟨r29, hx30, h'⟩ := bind_some h
      clear h
      have h := h'; clear h'
      have hc31 := c_spec_reader_one (lor_0 := lor_0) (br_0 := br_0) (or_0 := or_0) (prer_0 := prer_0) (sufr_0 := sufr_0) (ar_0_0 := a10) (cr_0_0 := c11) (alist_1 := (some ⟨b25, 0, none⟩)) (clist_1 := 5) hx30
      refine st_call (cx_call hc31 (ent_f hc31.fn rfl) hn0 (show Hp S0 σ0 _ ([Ch.bx lor_0 br_0 or_0 [(Sl a10 o1.1.1 c11), (I o1.1.2)] prer_0 sufr_0, Ch.ro 0 (Sl a10 o1.1.1 c11) o1.1.1, Ch.ro 0 (Sl (some ⟨b25, 0, none⟩) ([5, 99, 0, 31, -1] : List Int) 5) ([5, 99, 0, 31, -1] : List Int)] ++ [Ch.ro 0 (Sl (some ⟨b25, 0, none⟩) ([5, 99, 0, 31, -1] : List Int) 5) ([5, 99, 0, 31, -1] : List Int), Ch.ro n0 (Sl (some ⟨b25, 0, none⟩) ([5, 99, 0, 31, -1] : List Int) 5) ([5, 99, 0, 31, -1] : List Int), Ch.ro 0 (Sl a10 o1.1.1 c11) o1.1.1, Ch.ro 0 (Sl alist_1 list_1 clist_1) list_1]) from (H.sel' [2, 3, 0, 0, 1, 3, 4] rfl rfl))) (wanted_none _ rfl _) ?_
      rintro _ σ34 ⟨_, ⟨a32, c33, rfl, rfl⟩, H, -⟩
      replace H : Hp S0 σ0 σ34 [Ch.bx lor_0 br_0 or_0 [(Sl a32 r29.2.1 c33), (I r29.2.2)] prer_0 sufr_0, Ch.ro 0 (Sl a32 r29.2.1 c33) r29.2.1, Ch.ro 0 (Sl (some ⟨b25, 0, none⟩) ([5, 99, 0, 31, -1] : List Int) 5) ([5, 99, 0, 31, -1] : List Int), Ch.ro n0 (Sl (some ⟨b25, 0, none⟩) ([5, 99, 0, 31, -1] : List Int) 5) ([5, 99, 0, 31, -1] : List Int), Ch.ro 0 (Sl a10 o1.1.1 c11) o1.1.1, Ch.ro 0 (Sl alist_1 list_1 clist_1) list_1] := H
      refine st (v := (I r29.1)) (rv_assign rfl) ?_
      refine w_end ?_
      refine q_then ?_
      refine c_ret ?_
      obtain rfl := Option.some.inj h
      exact fin_ret (v := (I r29.1)) (results_ok Try.results42 (res_tmp (v := (I r29.1)) rfl res_nil) rfl) ⟨a32, c33, rfl, rfl⟩ (H.sel' [0, 1] rfl rfl)

theorem c_spec_DrawDropItem {code_0 : List UInt8} {acode_0 : Option Addr} {ccode_0 : Nat} {r : (List (Int × (List Int) × Int)) × Int} (h : M.spec_DrawDropItem code_0 = some r) :
    Cal2 Try.prog 22 [(Sl acode_0 code_0 ccode_0)] [Ch.ro 0 (Sl acode_0 code_0 ccode_0) code_0] (fun n0 v L => ∃ (az1 : Option Addr), ∃ (cz2 : Nat), v = (.tuple #[(Sl az1 r.1 cz2), (I r.2)]) ∧ L = [Ch.ro n0 (Sl az1 r.1 cz2) r.1]) := by
  refine cal2 (n := 14) Try.func22 rfl rfl rfl rfl ?_
  intro S0 σ0 n0 hn0 H
  unfold M.spec_DrawDropItem at h
  refine c_seq ?_
  refine rg ?_
  refine st (v := (.slice none 0 0)) (rv_assign rfl) ?_
  refine st (v := (I 0)) (rv_assign rfl) ?_
  refine w_end ?_
  refine q_then ?_
  refine c_seq ?_
  refine rg ?_
  refine st (v := (Sl acode_0 code_0 ccode_0)) (rv_move rfl) ?_
  obtain ⟨r1, hx2, h'⟩ := bind_some h
  clear h
  have h := h'; clear h'
  have hc3 := c_spec_newReader (acode_0 := acode_0) (ccode_0 := ccode_0) hx2
  refine st_call (cx_call hc3 (ent_f hc3.fn rfl) hn0 (show Hp S0 σ0 _ ([Ch.ro 0 (Sl acode_0 code_0 ccode_0) code_0] ++ [Ch.ro 0 (Sl acode_0 code_0 ccode_0) code_0]) from (H.sel' [0, 0] rfl rfl))) (wanted_none _ rfl _) ?_
  rintro _ σ7 ⟨_, ⟨b4, a5, c6, rfl, rfl⟩, H, -⟩
  replace H : Hp S0 σ0 σ7 [Ch.bx n0 b4 0 [(Sl a5 r1.1 c6), (I r1.2)] [] [], Ch.ro 0 (Sl a5 r1.1 c6) r1.1, Ch.ro 0 (Sl acode_0 code_0 ccode_0) code_0] := H
  refine st (v := (pt b4 0)) (rv_assign rfl) ?_
  refine w_end ?_
  refine q_then ?_
  refine c_seq ?_
  refine rg ?_
  refine st (v := (pt b4 0)) (rv_move rfl) ?_
  obtain ⟨r8, hx9, h'⟩ := bind_some h
  clear h
  have h := h'; clear h'
  have hc10 := c_spec_anyStore (lor_0 := n0) (br_0 := b4) (or_0 := 0) (prer_0 := []) (sufr_0 := []) (ar_0_0 := a5) (cr_0_0 := c6) hx9
  refine st_call (cx_call hc10 (ent_f hc10.fn rfl) hn0 (show Hp S0 σ0 _ ([Ch.bx n0 b4 0 [(Sl a5 r1.1 c6), (I r1.2)] [] [], Ch.ro 0 (Sl a5 r1.1 c6) r1.1] ++ [Ch.ro 0 (Sl a5 r1.1 c6) r1.1, Ch.ro 0 (Sl acode_0 code_0 ccode_0) code_0]) from (H.sel' [0, 1, 1, 2] rfl rfl))) (wanted_none _ rfl _) ?_
  rintro _ σ15 ⟨_, ⟨a11, c12, a13, c14, rfl, rfl⟩, H, -⟩
  replace H : Hp S0 σ0 σ15 [Ch.own n0 n0 (Sl a11 r8.1 c12) r8.1, Ch.bx n0 b4 0 [(Sl a13 r8.2.1 c14), (I r8.2.2)] [] [], Ch.ro 0 (Sl a13 r8.2.1 c14) r8.2.1, Ch.ro 0 (Sl a5 r1.1 c6) r1.1, Ch.ro 0 (Sl acode_0 code_0 ccode_0) code_0] := H
  refine st (v := (Sl a11 r8.1 c12)) (rv_assign rfl) ?_
  refine w_end ?_
  refine q_then ?_
  refine c_seq ?_
  refine rg ?_
  refine st (v := (Sl a11 r8.1 c12)) (rv_move rfl) ?_
  refine st (v := (pt b4 0)) (rv_move rfl) ?_
  refine st (v := (Sl a11 r8.1 c12)) (rv_move rfl) ?_
  obtain ⟨σ16, hw17, H, -⟩ := H.pub 0 rfl (Nat.le_refl _)
  rw [← hw17]; clear hw17
  replace H := H.roLow 0 0 rfl (Nat.zero_le _)
  obtain ⟨r18, hx19, h'⟩ := bind_some h
  clear h
  have h := h'; clear h'
  have hc20 := c_spec_someKey (lor_0 := n0) (br_0 := b4) (or_0 := 0) (prer_0 := []) (sufr_0 := []) (ar_0_0 := a13) (cr_0_0 := c14) (alist_1 := a11) (clist_1 := c12) hx19
  refine st_call (cx_call hc20 (ent_f hc20.fn rfl) hn0 (show Hp S0 σ0 _ ([Ch.bx n0 b4 0 [(Sl a13 r8.2.1 c14), (I r8.2.2)] [] [], Ch.ro 0 (Sl a13 r8.2.1 c14) r8.2.1, Ch.ro 0 (Sl a11 r8.1 c12) r8.1] ++ [Ch.ro 0 (Sl a11 r8.1 c12) r8.1, Ch.ro n0 (Sl a11 r8.1 c12) r8.1, Ch.ro 0 (Sl a13 r8.2.1 c14) r8.2.1, Ch.ro 0 (Sl a5 r1.1 c6) r1.1, Ch.ro 0 (Sl acode_0 code_0 ccode_0) code_0]) from (H.sel' [2, 3, 0, 0, 1, 3, 4, 5] rfl rfl))) (wanted_none _ rfl _) ?_
  rintro _ σ23 ⟨_, ⟨a21, c22, rfl, rfl⟩, H, -⟩
  replace H : Hp S0 σ0 σ23 [Ch.bx n0 b4 0 [(Sl a21 r18.2.1 c22), (I r18.2.2)] [] [], Ch.ro 0 (Sl a21 r18.2.1 c22) r18.2.1, Ch.ro 0 (Sl a11 r8.1 c12) r8.1, Ch.ro n0 (Sl a11 r8.1 c12) r8.1, Ch.ro 0 (Sl a13 r8.2.1 c14) r8.2.1, Ch.ro 0 (Sl a5 r1.1 c6) r1.1, Ch.ro 0 (Sl acode_0 code_0 ccode_0) code_0] := H
  refine st (v := (Sl a11 r8.1 c12)) (rv_assign rfl) ?_
  refine st (v := (I r18.1)) (rv_assign rfl) ?_
  refine w_end ?_
  refine q_then ?_
  refine c_ret ?_
  obtain rfl := Option.some.inj h
  exact fin_ret (v := (.tuple #[(Sl a11 r8.1 c12), (I r18.1)])) (results_ok Try.results22 (res_tmp (v := (Sl a11 r8.1 c12)) rfl (res_tmp (v := (I r18.1)) rfl res_nil)) rfl) ⟨a11, c12, rfl, rfl⟩ (H.sel' [3] rfl rfl)

theorem c_impl_validKey {key_0 : Int}  {r : Bool} (h : M.impl_validKey key_0 = some r) :
    Cal2 Try.prog 50 [(I key_0)] [] (fun n0 v L => v = (B r) ∧ L = []) := by
  refine cal2 (n := 9) Try.func50 rfl rfl rfl rfl ?_
  intro S0 σ0 n0 hn0 H
  unfold M.impl_validKey at h
  refine c_seq ?_
  refine rg ?_
  refine st (v := (B false)) (rv_assign rfl) ?_
  refine w_end ?_
  refine q_then ?_
  refine c_seq ?_
  refine rg ?_
  refine st (v := (I key_0)) (rv_move rfl) ?_
  refine st (v := (B (decide (1 ≤ key_0)))) (rv_geq (a := key_0) (b := 1) rfl rfl) ?_
  refine st (v := (B (decide (1 ≤ key_0)))) (rv_move rfl) ?_
  rcases Bool.eq_false_or_eq_true (decide (1 ≤ key_0)) with hb1 | hb1
  · replace h := bif_t hb1 h
    refine st_g (v := (I key_0)) (congrArg some hb1) (rv_move rfl) ?_
    refine st_g (v := (B (decide (key_0 ≤ 99)))) (congrArg some hb1) (rv_leq (a := key_0) (b := 99) rfl rfl) ?_
    refine st (v := (B (decide (key_0 ≤ 99)))) (rv_pick_t (congrArg B hb1) rfl) ?_
    refine st (v := (B (decide (key_0 ≤ 99)))) (rv_assign rfl) ?_
    refine w_end ?_
    refine q_then ?_
    refine c_ret ?_
    obtain rfl := Option.some.inj h
    exact fin_ret (v := (B (decide (key_0 ≤ 99)))) (results_ok Try.results50 (res_tmp (v := (B (decide (key_0 ≤ 99)))) rfl res_nil) rfl) ⟨rfl, rfl⟩ (H.sel' [] rfl rfl)
  · replace h := bif_f hb1 h
    refine st_skip (congrArg some hb1) ?_
    refine st_skip (congrArg some hb1) ?_
    refine st (v := (B false)) (rv_pick_f (congrArg B hb1) rfl) ?_
    refine st (v := (B false)) (rv_assign rfl) ?_
    refine w_end ?_
    refine q_then ?_
    refine c_ret ?_
    obtain rfl := Option.some.inj h
    exact fin_ret (v := (B false)) (results_ok Try.results50 (res_tmp (v := (B false)) rfl res_nil) rfl) ⟨rfl, rfl⟩ (H.sel' [] rfl rfl)

theorem c_impl_ValidVector {v_0 : List Int} {av_0 : Option Addr} {cv_0 : Nat} {r : Bool} (h : M.impl_ValidVector v_0 = some r) :
    Cal2 Try.prog 51 [(Sl av_0 v_0 cv_0)] [Ch.ro 0 (Sl av_0 v_0 cv_0) v_0] (fun n0 v L => v = (B r) ∧ L = []) := by
  refine cal2 (n := 21) Try.func51 rfl rfl rfl rfl ?_
  intro S0 σ0 n0 hn0 H
  unfold M.impl_ValidVector at h
  refine c_seq ?_
  refine rg ?_
  refine st (v := (B false)) (rv_assign rfl) ?_
  refine w_end ?_
  refine q_then ?_
  refine c_seq ?_
  refine c_seq ?_
  refine rg ?_
  refine st (v := (Sl av_0 v_0 cv_0)) (rv_move rfl) ?_
  refine st (v := (I (v_0.length : Int))) (rv_len Try.underlying27 rfl) ?_
  refine st (v := (B ((v_0.length : Int) != 4))) (rv_neq (a := (v_0.length : Int)) (b := 4) rfl rfl) ?_
  refine w_end ?_
  refine q_then ?_
  refine cd_cond ((v_0.length : Int) != 4) rfl (fun hb1 => ?_) (fun hb1 => ?_)
  · replace h := bif_t hb1 h
    refine c_seq ?_
    refine rg ?_
    refine st (v := (B false)) (rv_assign rfl) ?_
    refine w_end ?_
    refine q_then ?_
    refine c_ret ?_
    refine q_then_r ?_
    obtain rfl := Option.some.inj h
    exact fin_ret (v := (B false)) (results_ok Try.results51 (res_tmp (v := (B false)) rfl res_nil) rfl) ⟨rfl, rfl⟩ (H.sel' [] rfl rfl)
  · replace h := bif_f hb1 h
    refine c_skip ?_
    refine q_then ?_
    refine c_seq ?_
    refine c_seq ?_
    refine rg ?_
    refine st (v := (Sl av_0 v_0 cv_0)) (rv_move rfl) ?_
    refine st (v := (I (v_0.length : Int))) (rv_len Try.underlying27 rfl) ?_
    refine st (v := (I 0)) (rv_move rfl) ?_
    refine w_end ?_
    refine q_then ?_
    obtain ⟨o2, hj, h'⟩ := bind_some h
    clear h
    refine c_cut (fun e a w => (∃ t, o2 = (.inl t) ∧ e = .normal ∧ ∃ (ρ : Nat → Value) (σ : St), a = fr 21 (updL ρ []) ∧ w = σ.w ∧ Hp S0 σ0 σ []) ∨ (∃ t, o2 = (.inr t) ∧ e = .ret ∧ ∃ (ρ : Nat → Value) (σ : St), a = fr 21 (updL ρ [(2, (B t))]) ∧ w = σ.w ∧ Hp S0 σ0 σ [])) ?_ ?_
    · clear h'
      rename _ = some o2 => h
      refine c_blk ?_
      refine wp_loopM _ h (fun s3 a w => ∃ (ρ : Nat → Value) (σ : St), a = fr 21 (updL ρ [(8, (Sl av_0 v_0 cv_0)), (9, (I (v_0.length : Int))), (10, (I s3))]) ∧ w = σ.w ∧ Hp S0 σ0 σ [Ch.ro 0 (Sl av_0 v_0 cv_0) v_0]) ⟨_, σ0, fr_join ⟨rfl, rfl, rfl, trivial⟩, rfl, H.sel' [0] rfl rfl⟩ ?_
      clear h H
      rintro s3 a w o ⟨ρ, σ4, rfl, rfl, H⟩ h hres
      refine c_seq ?_
      refine rg ?_
      refine st (v := (B (decide (s3 < (v_0.length : Int))))) (rv_lss (a := s3) (b := (v_0.length : Int)) rfl rfl) ?_
      refine w_end ?_
      refine q_then ?_
      refine c_seq ?_
      refine cd_cond (decide (s3 < (v_0.length : Int))) rfl (fun hb5 => ?_) (fun hb5 => ?_)
      · replace h := bif_t hb5 h
        refine c_skip ?_
        refine q_then ?_
        refine c_seq ?_
        refine c_blk ?_
        refine c_seq ?_
        refine rg ?_
        obtain ⟨x6, hx7, h'⟩ := bind_some h
        clear h
        have h := h'; clear h'
        obtain ⟨b9, o10, hi8, -⟩ := (H.ro 0 rfl).ix hx7
        refine st (v := (pt b9 o10)) (rv_ix Try.underlying27 ti3 rfl rfl hi8) ?_
        have hc11 := ((H.ro 0 rfl).at hx7 hi8).int
        refine st (v := (I x6)) (rv_load1 Try.underlying3 rfl rfl hc11) ?_
        refine st (v := (I x6)) (rv_assign rfl) ?_
        refine w_end ?_
        refine q_then ?_
        refine c_seq ?_
        obtain ⟨o12, hj, h'⟩ := bind_some h
        clear h
        refine c_cut (fun e a w => e = .normal ∧ ∃ (ρ : Nat → Value) (σ : St), a = fr 21 (updL ρ [(8, (Sl av_0 v_0 cv_0)), (9, (I (v_0.length : Int))), (10, (I s3)), (19, (B o12))]) ∧ w = σ.w ∧ Hp S0 σ0 σ [Ch.ro 0 (Sl av_0 v_0 cv_0) v_0]) ?_ ?_
        · clear h'
          rename _ = some o12 => h
          refine rg ?_
          refine st (v := (I x6)) (rv_move rfl) ?_
          refine st (v := (B (decide (x6 < (-100))))) (rv_lss (a := x6) (b := (-100)) rfl rfl) ?_
          refine st (v := (B (decide (x6 < (-100))))) (rv_move rfl) ?_
          rcases Bool.eq_false_or_eq_true (decide (x6 < (-100))) with hb13 | hb13
          · replace h := bif_t hb13 h
            refine st_skip (congrArg some hb13) ?_
            refine st_skip (congrArg some hb13) ?_
            refine st (v := (B true)) (rv_pick_t (congrArg B hb13) rfl) ?_
            refine w_end ?_
            obtain rfl := Option.some.inj h
            exact ⟨rfl, _, σ4, fr_join ⟨rfl, rfl, rfl, rfl, trivial⟩, rfl, H.sel' [0] rfl rfl⟩
          · replace h := bif_f hb13 h
            refine st_g (v := (I x6)) (congrArg some hb13) (rv_move rfl) ?_
            refine st_g (v := (B (decide (100 < x6)))) (congrArg some hb13) (rv_gtr (a := x6) (b := 100) rfl rfl) ?_
            refine st (v := (B (decide (100 < x6)))) (rv_pick_f (congrArg B hb13) rfl) ?_
            refine w_end ?_
            obtain rfl := Option.some.inj h
            exact ⟨rfl, _, σ4, fr_join ⟨rfl, rfl, rfl, rfl, trivial⟩, rfl, H.sel' [0] rfl rfl⟩
        · clear hj
          have h := h'
          clear h' H
          rintro e a w ⟨rfl, ρ, σ14, rfl, rfl, H⟩
          refine q_then ?_
          refine cd_cond o12 rfl (fun hb15 => ?_) (fun hb15 => ?_)
          · replace h := bif_t hb15 h
            refine c_seq ?_
            refine rg ?_
            refine st (v := (B false)) (rv_assign rfl) ?_
            refine w_end ?_
            refine q_then ?_
            refine c_ret ?_
            refine q_blk_r ?_
            refine q_then_r ?_
            refine q_then_r ?_
            refine q_blk_r ?_
            obtain rfl := Option.some.inj h
            obtain rfl := hres _ rfl
            exact .inr (⟨_, rfl, rfl, _, σ14, fr_join ⟨rfl, trivial⟩, rfl, H.sel' [] rfl rfl⟩)
          · replace h := bif_f hb15 h
            refine c_skip ?_
            refine q_blk ?_
            refine q_then ?_
            refine rg ?_
            refine st (v := (I (w64 (s3 + 1)))) (rv_add (a := s3) (b := 1) rfl rfl) ?_
            refine st (v := (I (w64 (s3 + 1)))) (rv_move rfl) ?_
            refine w_end ?_
            refine q_then ?_
            obtain rfl := Option.some.inj h
            exact ⟨_, rfl, _, σ14, fr_join ⟨rfl, rfl, rfl, trivial⟩, rfl, H.sel' [0] rfl rfl⟩
      · replace h := bif_f hb5 h
        refine c_exit ?_
        refine q_then_x ?_
        refine q_then_x ?_
        refine q_blk_hit ?_
        obtain rfl := Option.some.inj h
        obtain rfl := hres _ rfl
        exact .inl ⟨_, rfl, rfl, _, σ4, fr_join trivial, rfl, H.sel' [] rfl rfl⟩
    · clear hj
      have h := h'
      clear h' H
      rintro e a w (⟨t16, rfl, rfl, ρ, σ17, rfl, rfl, H⟩ | ⟨t18, rfl, rfl, ρ, σ19, rfl, rfl, H⟩)
      · replace h := selim_l h
        refine q_then ?_
        refine c_seq ?_
        refine rg ?_
        refine st (v := (B true)) (rv_assign rfl) ?_
        refine w_end ?_
        refine q_then ?_
        refine c_ret ?_
        obtain rfl := Option.some.inj h
        exact fin_ret (v := (B true)) (results_ok Try.results51 (res_tmp (v := (B true)) rfl res_nil) rfl) ⟨rfl, rfl⟩ (H.sel' [] rfl rfl)
      · replace h := selim_r h
        refine q_then_r ?_
        obtain rfl := Option.some.inj h
        exact fin_ret (v := (B t18)) (results_ok Try.results51 (res_tmp (v := (B t18)) rfl res_nil) rfl) ⟨rfl, rfl⟩ (H.sel' [] rfl rfl)

theorem c_impl_validItem {x_0 : Int × (List Int) × Int} {ax_0_1 : Option Addr} {cx_0_1 : Nat} {r : Bool} (h : M.impl_validItem x_0 = some r) :
    Cal2 Try.prog 33 [(.agg #[(I x_0.1), (Sl ax_0_1 x_0.2.1 cx_0_1), (I x_0.2.2)])] [Ch.ro 0 (Sl ax_0_1 x_0.2.1 cx_0_1) x_0.2.1] (fun n0 v L => v = (B r) ∧ L = []) := by
  refine cal2 (n := 21) Try.func33 rfl rfl rfl rfl ?_
  intro S0 σ0 n0 hn0 H
  unfold M.impl_validItem at h
  refine c_seq ?_
  refine rg ?_
  refine st_ex (ex_box (cs := [(I x_0.1), (Sl ax_0_1 x_0.2.1 cx_0_1), (I x_0.2.2)]) H hn0 rfl rfl) (wanted_none _ rfl _) ?_
  rintro _ σ2 ⟨b1, rfl, H, -⟩
  refine st (v := (B false)) (rv_assign rfl) ?_
  refine w_end ?_
  refine q_then ?_
  refine c_seq ?_
  refine rg ?_
  refine st (v := (pt b1 0)) (rv_fieldAddr (off := 0) (ft := 3) Try.underlying29 rfl ti3 rfl rfl) ?_
  have hc3 := H.cell (u := (I x_0.1)) (o' := 0) 0 0 rfl rfl rfl
  refine st (v := (I x_0.1)) (rv_load1 Try.underlying3 rfl rfl hc3) ?_
  obtain ⟨r4, hx5, h'⟩ := bind_some h
  clear h
  have h := h'; clear h'
  have hc6 := c_impl_validKey hx5
  refine st_call (cx_call hc6 (ent_f hc6.fn rfl) hn0 (show Hp S0 σ0 _ ([] ++ [Ch.bx n0 b1 0 [(I x_0.1), (Sl ax_0_1 x_0.2.1 cx_0_1), (I x_0.2.2)] [] [], Ch.ro 0 (Sl ax_0_1 x_0.2.1 cx_0_1) x_0.2.1]) from (H.sel' [0, 1] rfl rfl))) (wanted_none _ rfl _) ?_
  rintro _ σ7 ⟨_, ⟨rfl, rfl⟩, H, -⟩
  replace H : Hp S0 σ0 σ7 [Ch.bx n0 b1 0 [(I x_0.1), (Sl ax_0_1 x_0.2.1 cx_0_1), (I x_0.2.2)] [] [], Ch.ro 0 (Sl ax_0_1 x_0.2.1 cx_0_1) x_0.2.1] := H
  refine st (v := (B r4)) (rv_move rfl) ?_
  rcases Bool.eq_false_or_eq_true r4 with hb8 | hb8
  · replace h := bif_t hb8 h
    refine st_g (v := (pt b1 1)) (congrArg some hb8) (rv_fieldAddr (off := 1) (ft := 27) Try.underlying29 rfl ti27 rfl rfl) ?_
    have hc9 := H.cell (u := (Sl ax_0_1 x_0.2.1 cx_0_1)) (o' := 1) 0 1 rfl rfl rfl
    refine st_g (v := (Sl ax_0_1 x_0.2.1 cx_0_1)) (congrArg some hb8) (rv_load1 Try.underlying27 rfl rfl hc9) ?_
    obtain ⟨r10, hx11, h'⟩ := bind_some h
    clear h
    have h := h'; clear h'
    have hc12 := c_impl_ValidVector (av_0 := ax_0_1) (cv_0 := cx_0_1) hx11
    refine st_call (cx_call hc12 (ent_f hc12.fn rfl) hn0 (show Hp S0 σ0 _ ([Ch.ro 0 (Sl ax_0_1 x_0.2.1 cx_0_1) x_0.2.1] ++ [Ch.bx n0 b1 0 [(I x_0.1), (Sl ax_0_1 x_0.2.1 cx_0_1), (I x_0.2.2)] [] [], Ch.ro 0 (Sl ax_0_1 x_0.2.1 cx_0_1) x_0.2.1]) from (H.sel' [1, 0, 1] rfl rfl))) (wanted_yes rfl (by exact (congrArg some hb8))) ?_
    rintro _ σ13 ⟨_, ⟨rfl, rfl⟩, H, -⟩
    replace H : Hp S0 σ0 σ13 [Ch.bx n0 b1 0 [(I x_0.1), (Sl ax_0_1 x_0.2.1 cx_0_1), (I x_0.2.2)] [] [], Ch.ro 0 (Sl ax_0_1 x_0.2.1 cx_0_1) x_0.2.1] := H
    refine st (v := (B r10)) (rv_pick_t (congrArg B hb8) rfl) ?_
    refine st (v := (B r10)) (rv_move rfl) ?_
    rcases Bool.eq_false_or_eq_true r10 with hb14 | hb14
    · replace h := bif_t hb14 h
      refine st_g (v := (pt b1 2)) (congrArg some hb14) (rv_fieldAddr (off := 2) (ft := 3) Try.underlying29 rfl ti3 rfl rfl) ?_
      have hc15 := H.cell (u := (I x_0.2.2)) (o' := 2) 0 2 rfl rfl rfl
      refine st_g (v := (I x_0.2.2)) (congrArg some hb14) (rv_load1 Try.underlying3 rfl rfl hc15) ?_
      refine st_g (v := (B (decide (0 ≤ x_0.2.2)))) (congrArg some hb14) (rv_geq (a := x_0.2.2) (b := 0) rfl rfl) ?_
      refine st (v := (B (decide (0 ≤ x_0.2.2)))) (rv_pick_t (congrArg B hb14) rfl) ?_
      refine st (v := (B (decide (0 ≤ x_0.2.2)))) (rv_move rfl) ?_
      rcases Bool.eq_false_or_eq_true (decide (0 ≤ x_0.2.2)) with hb16 | hb16
      · replace h := bif_t hb16 h
        refine st_g (v := (pt b1 2)) (congrArg some hb16) (rv_fieldAddr (off := 2) (ft := 3) Try.underlying29 rfl ti3 rfl rfl) ?_
        have hc17 := H.cell (u := (I x_0.2.2)) (o' := 2) 0 2 rfl rfl rfl
        refine st_g (v := (I x_0.2.2)) (congrArg some hb16) (rv_load1 Try.underlying3 rfl rfl hc17) ?_
        refine st_g (v := (B (decide (x_0.2.2 ≤ 15)))) (congrArg some hb16) (rv_leq (a := x_0.2.2) (b := 15) rfl rfl) ?_
        refine st (v := (B (decide (x_0.2.2 ≤ 15)))) (rv_pick_t (congrArg B hb16) rfl) ?_
        refine st (v := (B (decide (x_0.2.2 ≤ 15)))) (rv_assign rfl) ?_
        refine w_end ?_
        refine q_then ?_
        refine c_ret ?_
        obtain rfl := Option.some.inj h
        exact fin_ret (v := (B (decide (x_0.2.2 ≤ 15)))) (results_ok Try.results33 (res_tmp (v := (B (decide (x_0.2.2 ≤ 15)))) rfl res_nil) rfl) ⟨rfl, rfl⟩ (H.sel' [] rfl rfl)
      · replace h := bif_f hb16 h
        refine st_skip (congrArg some hb16) ?_
        refine st_skip (congrArg some hb16) ?_
        refine st_skip (congrArg some hb16) ?_
        refine st (v := (B false)) (rv_pick_f (congrArg B hb16) rfl) ?_
        refine st (v := (B false)) (rv_assign rfl) ?_
        refine w_end ?_
        refine q_then ?_
        refine c_ret ?_
        obtain rfl := Option.some.inj h
        exact fin_ret (v := (B false)) (results_ok Try.results33 (res_tmp (v := (B false)) rfl res_nil) rfl) ⟨rfl, rfl⟩ (H.sel' [] rfl rfl)
    · replace h := bif_f hb14 h
      refine st_skip (congrArg some hb14) ?_
      refine st_skip (congrArg some hb14) ?_
      refine st_skip (congrArg some hb14) ?_
      refine st (v := (B false)) (rv_pick_f (congrArg B hb14) rfl) ?_
      refine st (v := (B false)) (rv_move rfl) ?_
      refine st_skip rfl ?_
      refine st_skip rfl ?_
      refine st_skip rfl ?_
      refine st (v := (B false)) (rv_pick_f rfl rfl) ?_
      refine st (v := (B false)) (rv_assign rfl) ?_
      refine w_end ?_
      refine q_then ?_
      refine c_ret ?_
      obtain rfl := Option.some.inj h
      exact fin_ret (v := (B false)) (results_ok Try.results33 (res_tmp (v := (B false)) rfl res_nil) rfl) ⟨rfl, rfl⟩ (H.sel' [] rfl rfl)
  · replace h := bif_f hb8 h
    refine st_skip (congrArg some hb8) ?_
    refine st_skip (congrArg some hb8) ?_
    refine st_skip (congrArg some hb8) ?_
    refine st (v := (B false)) (rv_pick_f (congrArg B hb8) rfl) ?_
    refine st (v := (B false)) (rv_move rfl) ?_
    refine st_skip rfl ?_
    refine st_skip rfl ?_
    refine st_skip rfl ?_
    refine st (v := (B false)) (rv_pick_f rfl rfl) ?_
    refine st (v := (B false)) (rv_move rfl) ?_
    refine st_skip rfl ?_
    refine st_skip rfl ?_
    refine st_skip rfl ?_
    refine st (v := (B false)) (rv_pick_f rfl rfl) ?_
    refine st (v := (B false)) (rv_assign rfl) ?_
    refine w_end ?_
    refine q_then ?_
    refine c_ret ?_
    obtain rfl := Option.some.inj h
    exact fin_ret (v := (B false)) (results_ok Try.results33 (res_tmp (v := (B false)) rfl res_nil) rfl) ⟨rfl, rfl⟩ (H.sel' [] rfl rfl)

theorem c_impl_ValidStore {list_0 : List (Int × (List Int) × Int)} {alist_0 : Option Addr} {clist_0 : Nat} {r : Bool} (h : M.impl_ValidStore list_0 = some r) :
    Cal2 Try.prog 14 [(Sl alist_0 list_0 clist_0)] [Ch.ro 0 (Sl alist_0 list_0 clist_0) list_0] (fun n0 v L => v = (B r) ∧ L = []) := by
  refine cal2 (n := 27) Try.func14 rfl rfl rfl rfl ?_
  intro S0 σ0 n0 hn0 H
  unfold M.impl_ValidStore at h
  refine c_seq ?_
  refine rg ?_
  refine st (v := (B false)) (rv_assign rfl) ?_
  refine w_end ?_
  refine q_then ?_
  refine c_seq ?_
  refine c_seq ?_
  refine rg ?_
  refine st (v := (Sl alist_0 list_0 clist_0)) (rv_move rfl) ?_
  refine st (v := (I (list_0.length : Int))) (rv_len Try.underlying23 rfl) ?_
  refine st (v := (B (decide (16 < (list_0.length : Int))))) (rv_gtr (a := (list_0.length : Int)) (b := 16) rfl rfl) ?_
  refine w_end ?_
  refine q_then ?_
  refine cd_cond (decide (16 < (list_0.length : Int))) rfl (fun hb1 => ?_) (fun hb1 => ?_)
  · replace h := bif_t hb1 h
    refine c_seq ?_
    refine rg ?_
    refine st (v := (B false)) (rv_assign rfl) ?_
    refine w_end ?_
    refine q_then ?_
    refine c_ret ?_
    refine q_then_r ?_
    obtain rfl := Option.some.inj h
    exact fin_ret (v := (B false)) (results_ok Try.results14 (res_tmp (v := (B false)) rfl res_nil) rfl) ⟨rfl, rfl⟩ (H.sel' [] rfl rfl)
  · replace h := bif_f hb1 h
    refine c_skip ?_
    refine q_then ?_
    refine c_seq ?_
    refine rg ?_
    refine st (v := (I 0)) (rv_assign rfl) ?_
    refine w_end ?_
    refine q_then ?_
    refine c_seq ?_
    refine c_seq ?_
    refine rg ?_
    refine st (v := (Sl alist_0 list_0 clist_0)) (rv_move rfl) ?_
    refine st (v := (I (list_0.length : Int))) (rv_len Try.underlying23 rfl) ?_
    refine st (v := (I 0)) (rv_move rfl) ?_
    refine w_end ?_
    refine q_then ?_
    obtain ⟨o2, hj, h'⟩ := bind_some h
    clear h
    refine c_cut (fun e a w => (∃ t, o2 = (.inl t) ∧ e = .normal ∧ ∃ (ρ : Nat → Value) (σ : St), a = fr 27 (updL ρ []) ∧ w = σ.w ∧ Hp S0 σ0 σ []) ∨ (∃ t, o2 = (.inr t) ∧ e = .ret ∧ ∃ (ρ : Nat → Value) (σ : St), a = fr 27 (updL ρ [(2, (B t))]) ∧ w = σ.w ∧ Hp S0 σ0 σ [])) ?_ ?_
    · clear h'
      rename _ = some o2 => h
      refine c_blk ?_
      refine wp_loopM _ h (fun s3 a w => ∃ (ρ : Nat → Value) (σ : St), a = fr 27 (updL ρ [(3, (I s3.1)), (9, (Sl alist_0 list_0 clist_0)), (10, (I (list_0.length : Int))), (11, (I s3.2))]) ∧ w = σ.w ∧ Hp S0 σ0 σ [Ch.ro 0 (Sl alist_0 list_0 clist_0) list_0]) ⟨_, σ0, fr_join ⟨rfl, rfl, rfl, rfl, trivial⟩, rfl, H.sel' [0] rfl rfl⟩ ?_
      clear h H
      rintro s3 a w o ⟨ρ, σ4, rfl, rfl, H⟩ h hres
      refine c_seq ?_
      refine rg ?_
      refine st (v := (B (decide (s3.2 < (list_0.length : Int))))) (rv_lss (a := s3.2) (b := (list_0.length : Int)) rfl rfl) ?_
      refine w_end ?_
      refine q_then ?_
      refine c_seq ?_
      refine cd_cond (decide (s3.2 < (list_0.length : Int))) rfl (fun hb5 => ?_) (fun hb5 => ?_)
      · replace h := bif_t hb5 h
        refine c_skip ?_
        refine q_then ?_
        refine c_seq ?_
        refine c_blk ?_
        refine c_seq ?_
        refine rg ?_
        obtain ⟨x6, hx7, h'⟩ := bind_some h
        clear h
        have h := h'; clear h'
        obtain ⟨b9, o10, hi8, -⟩ := (H.ro 0 rfl).ix hx7
        refine st (v := (pt b9 o10)) (rv_ix Try.underlying23 ti29 rfl rfl hi8) ?_
        obtain ⟨_, ⟨_, _, rfl, rfl, ⟨_, _, rfl, ⟨_, rfl, hR15⟩, rfl⟩⟩, hl11, hc12⟩ := ((H.ro 0 rfl).at hx7 hi8).cells
        obtain ⟨a13, c14, rfl⟩ := hR15.isSl
        replace H := H.add (d := Ch.ro 0 (Sl a13 x6.2.1 c14) x6.2.1) hR15 (fun _ h => h)
        clear hR15
        refine st (v := (.agg #[(I x6.1), (Sl a13 x6.2.1 c14), (I x6.2.2)])) (rv_load Try.underlying29 rfl ti29 rfl hl11 hc12) ?_
        refine st_ex (ex_alloc (cs := [(I 0), (.slice none 0 0), (I 0)]) H hn0 ti29 rfl) (wanted_none _ rfl _) ?_
        rintro _ σ17 ⟨b16, rfl, H, -⟩
        refine st_exS (ex_store_box (k := 0) (cs := [(I 0), (.slice none 0 0), (I 0)]) (vs := [(I x6.1), (Sl a13 x6.2.1 c14), (I x6.2.2)]) (cs' := [(I x6.1), (Sl a13 x6.2.1 c14), (I x6.2.2)]) H (i := 0) rfl ti29 rfl rfl rfl rfl rfl (Nat.le_of_ble_eq_true rfl) (by simp [plain]) rfl) (wanted_none _ rfl _) ?_
        rintro σ18 ⟨H, -⟩
        refine w_end ?_
        refine q_then ?_
        refine c_seq ?_
        refine c_seq ?_
        obtain ⟨o19, hj, h'⟩ := bind_some h
        clear h
        refine c_cut (fun e a w => e = .normal ∧ ∃ (ρ : Nat → Value) (σ : St), a = fr 27 (updL ρ [(5, (pt b16 0)), (9, (Sl alist_0 list_0 clist_0)), (10, (I (list_0.length : Int))), (11, (I s3.2)), (23, (B o19))]) ∧ w = σ.w ∧ Hp S0 σ0 σ [Ch.ro 0 (Sl a13 x6.2.1 c14) x6.2.1, Ch.bx n0 b16 0 [(I x6.1), (Sl a13 x6.2.1 c14), (I x6.2.2)] [] [], Ch.ro 0 (Sl alist_0 list_0 clist_0) list_0]) ?_ ?_
        · clear h'
          rename _ = some o19 => h
          refine rg ?_
          have hc20 := H.cells 0 rfl
          refine st (v := (.agg #[(I x6.1), (Sl a13 x6.2.1 c14), (I x6.2.2)])) (rv_load (cs := [(I x6.1), (Sl a13 x6.2.1 c14), (I x6.2.2)]) Try.underlying29 rfl ti29 rfl rfl hc20) ?_
          obtain ⟨r21, hx22, h'⟩ := bind_some h
          clear h
          have h := h'; clear h'
          have hc23 := c_impl_validItem (ax_0_1 := a13) (cx_0_1 := c14) hx22
          refine st_call (cx_call hc23 (ent_f hc23.fn rfl) hn0 (show Hp S0 σ0 _ ([Ch.ro 0 (Sl a13 x6.2.1 c14) x6.2.1] ++ [Ch.bx n0 b16 0 [(I x6.1), (Sl a13 x6.2.1 c14), (I x6.2.2)] [] [], Ch.ro 0 (Sl a13 x6.2.1 c14) x6.2.1, Ch.ro 0 (Sl alist_0 list_0 clist_0) list_0]) from (H.sel' [1, 0, 1, 2] rfl rfl))) (wanted_none _ rfl _) ?_
          rintro _ σ24 ⟨_, ⟨rfl, rfl⟩, H, -⟩
          replace H : Hp S0 σ0 σ24 [Ch.bx n0 b16 0 [(I x6.1), (Sl a13 x6.2.1 c14), (I x6.2.2)] [] [], Ch.ro 0 (Sl a13 x6.2.1 c14) x6.2.1, Ch.ro 0 (Sl alist_0 list_0 clist_0) list_0] := H
          refine st (v := (B (!r21))) (rv_not rfl) ?_
          refine st (v := (B (!r21))) (rv_move rfl) ?_
          rcases Bool.eq_false_or_eq_true (!r21) with hb25 | hb25
          · replace h := bif_t hb25 h
            refine st_skip (congrArg some hb25) ?_
            refine st_skip (congrArg some hb25) ?_
            refine st_skip (congrArg some hb25) ?_
            refine st_skip (congrArg some hb25) ?_
            refine st (v := (B true)) (rv_pick_t (congrArg B hb25) rfl) ?_
            refine w_end ?_
            obtain rfl := Option.some.inj h
            exact ⟨rfl, _, σ24, fr_join ⟨rfl, rfl, rfl, rfl, rfl, trivial⟩, rfl, H.sel' [1, 0, 2] rfl rfl⟩
          · replace h := bif_f hb25 h
            refine st_g (v := (pt b16 0)) (congrArg some hb25) (rv_fieldAddr (off := 0) (ft := 3) Try.underlying29 rfl ti3 rfl rfl) ?_
            have hc26 := H.cell (u := (I x6.1)) (o' := 0) 0 0 rfl rfl rfl
            refine st_g (v := (I x6.1)) (congrArg some hb25) (rv_load1 Try.underlying3 rfl rfl hc26) ?_
            refine st_g (v := (I s3.1)) (congrArg some hb25) (rv_move rfl) ?_
            refine st_g (v := (B (decide (x6.1 ≤ s3.1)))) (congrArg some hb25) (rv_leq (a := x6.1) (b := s3.1) rfl rfl) ?_
            refine st (v := (B (decide (x6.1 ≤ s3.1)))) (rv_pick_f (congrArg B hb25) rfl) ?_
            refine w_end ?_
            obtain rfl := Option.some.inj h
            exact ⟨rfl, _, σ24, fr_join ⟨rfl, rfl, rfl, rfl, rfl, trivial⟩, rfl, H.sel' [1, 0, 2] rfl rfl⟩
        · clear hj
          have h := h'
          clear h' H
          rintro e a w ⟨rfl, ρ, σ27, rfl, rfl, H⟩
          refine q_then ?_
          refine cd_cond o19 rfl (fun hb28 => ?_) (fun hb28 => ?_)
          · replace h := bif_t hb28 h
            refine c_seq ?_
            refine rg ?_
            refine st (v := (B false)) (rv_assign rfl) ?_
            refine w_end ?_
            refine q_then ?_
            refine c_ret ?_
            refine q_then_r ?_
            refine q_blk_r ?_
            refine q_then_r ?_
            refine q_then_r ?_
            refine q_blk_r ?_
            obtain rfl := Option.some.inj h
            obtain rfl := hres _ rfl
            exact .inr (⟨_, rfl, rfl, _, σ27, fr_join ⟨rfl, trivial⟩, rfl, H.sel' [] rfl rfl⟩)
          · replace h := bif_f hb28 h
            refine c_skip ?_
            refine q_then ?_
            refine rg ?_
            refine st (v := (pt b16 0)) (rv_fieldAddr (off := 0) (ft := 3) Try.underlying29 rfl ti3 rfl rfl) ?_
            have hc29 := H.cell (u := (I x6.1)) (o' := 0) 1 0 rfl rfl rfl
            refine st (v := (I x6.1)) (rv_load1 Try.underlying3 rfl rfl hc29) ?_
            refine st (v := (I x6.1)) (rv_assign rfl) ?_
            refine w_end ?_
            refine q_blk ?_
            refine q_then ?_
            refine rg ?_
            refine st (v := (I (w64 (s3.2 + 1)))) (rv_add (a := s3.2) (b := 1) rfl rfl) ?_
            refine st (v := (I (w64 (s3.2 + 1)))) (rv_move rfl) ?_
            refine w_end ?_
            refine q_then ?_
            obtain rfl := Option.some.inj h
            exact ⟨_, rfl, _, σ27, fr_join ⟨rfl, rfl, rfl, rfl, trivial⟩, rfl, H.sel' [2] rfl rfl⟩
      · replace h := bif_f hb5 h
        refine c_exit ?_
        refine q_then_x ?_
        refine q_then_x ?_
        refine q_blk_hit ?_
        obtain rfl := Option.some.inj h
        obtain rfl := hres _ rfl
        exact .inl ⟨_, rfl, rfl, _, σ4, fr_join trivial, rfl, H.sel' [] rfl rfl⟩
    · clear hj
      have h := h'
      clear h' H
      rintro e a w (⟨t30, rfl, rfl, ρ, σ31, rfl, rfl, H⟩ | ⟨t32, rfl, rfl, ρ, σ33, rfl, rfl, H⟩)
      · replace h := selim_l h
        refine q_then ?_
        refine c_seq ?_
        refine rg ?_
        refine st (v := (B true)) (rv_assign rfl) ?_
        refine w_end ?_
        refine q_then ?_
        refine c_ret ?_
        obtain rfl := Option.some.inj h
        exact fin_ret (v := (B true)) (results_ok Try.results14 (res_tmp (v := (B true)) rfl res_nil) rfl) ⟨rfl, rfl⟩ (H.sel' [] rfl rfl)
      · replace h := selim_r h
        refine q_then_r ?_
        obtain rfl := Option.some.inj h
        exact fin_ret (v := (B t32)) (results_ok Try.results14 (res_tmp (v := (B t32)) rfl res_nil) rfl) ⟨rfl, rfl⟩ (H.sel' [] rfl rfl)

theorem c_cmp_isNaN_int {x_0 : Int}  {r : Bool} (h : M.cmp_isNaN_int x_0 = some r) :
    Cal2 Try.prog 64 [(I x_0)] [] (fun n0 v L => v = (B r) ∧ L = []) := by
  refine cal2 (n := 6) Try.func64 rfl rfl rfl rfl ?_
  intro S0 σ0 n0 hn0 H
  unfold M.cmp_isNaN_int at h
  refine c_seq ?_
  refine rg ?_
  refine st (v := (B false)) (rv_assign rfl) ?_
  refine w_end ?_
  refine q_then ?_
  refine c_seq ?_
  refine rg ?_
  refine st (v := (I x_0)) (rv_move rfl) ?_
  refine st (v := (I x_0)) (rv_move rfl) ?_
  refine st (v := (B (x_0 != x_0))) (rv_neq (a := x_0) (b := x_0) rfl rfl) ?_
  refine st (v := (B (x_0 != x_0))) (rv_assign rfl) ?_
  refine w_end ?_
  refine q_then ?_
  refine c_ret ?_
  obtain rfl := Option.some.inj h
  exact fin_ret (v := (B (x_0 != x_0))) (results_ok Try.results64 (res_tmp (v := (B (x_0 != x_0))) rfl res_nil) rfl) ⟨rfl, rfl⟩ (H.sel' [] rfl rfl)

theorem c_cmp_Compare_int {x_0 : Int} {y_1 : Int}  {r : Int} (h : M.cmp_Compare_int x_0 y_1 = some r) :
    Cal2 Try.prog 56 [(I x_0), (I y_1)] [] (fun n0 v L => v = (I r) ∧ L = []) := by
  refine cal2 (n := 20) Try.func56 rfl rfl rfl rfl ?_
  intro S0 σ0 n0 hn0 H
  unfold M.cmp_Compare_int at h
  refine c_seq ?_
  refine rg ?_
  refine st (v := (I 0)) (rv_assign rfl) ?_
  refine w_end ?_
  refine q_then ?_
  refine c_seq ?_
  refine rg ?_
  refine st (v := (I x_0)) (rv_move rfl) ?_
  obtain ⟨r1, hx2, h'⟩ := bind_some h
  clear h
  have h := h'; clear h'
  have hc3 := c_cmp_isNaN_int hx2
  refine st_call (cx_call hc3 (ent_f hc3.fn rfl) hn0 (show Hp S0 σ0 _ ([] ++ []) from (H.sel' [] rfl rfl))) (wanted_none _ rfl _) ?_
  rintro _ σ4 ⟨_, ⟨rfl, rfl⟩, H, -⟩
  replace H : Hp S0 σ0 σ4 [] := H
  refine st (v := (B r1)) (rv_assign rfl) ?_
  refine w_end ?_
  refine q_then ?_
  refine c_seq ?_
  refine rg ?_
  refine st (v := (I y_1)) (rv_move rfl) ?_
  obtain ⟨r5, hx6, h'⟩ := bind_some h
  clear h
  have h := h'; clear h'
  have hc7 := c_cmp_isNaN_int hx6
  refine st_call (cx_call hc7 (ent_f hc7.fn rfl) hn0 (show Hp S0 σ0 _ ([] ++ []) from (H.sel' [] rfl rfl))) (wanted_none _ rfl _) ?_
  rintro _ σ8 ⟨_, ⟨rfl, rfl⟩, H, -⟩
  replace H : Hp S0 σ0 σ8 [] := H
  refine st (v := (B r5)) (rv_assign rfl) ?_
  refine w_end ?_
  refine q_then ?_
  refine c_seq ?_
  refine c_seq ?_
  refine rg ?_
  refine st (v := (B r1)) (rv_move rfl) ?_
  refine w_end ?_
  refine q_then ?_
  refine cd_cond r1 rfl (fun hb9 => ?_) (fun hb9 => ?_)
  · replace h := bif_t hb9 h
    refine c_seq ?_
    refine c_seq ?_
    refine rg ?_
    refine st (v := (B r5)) (rv_move rfl) ?_
    refine w_end ?_
    refine q_then ?_
    refine cd_cond r5 rfl (fun hb10 => ?_) (fun hb10 => ?_)
    · replace h := bif_t hb10 h
      refine c_seq ?_
      refine rg ?_
      refine st (v := (I 0)) (rv_assign rfl) ?_
      refine w_end ?_
      refine q_then ?_
      refine c_ret ?_
      refine q_then_r ?_
      refine q_then_r ?_
      obtain rfl := Option.some.inj h
      exact fin_ret (v := (I 0)) (results_ok Try.results56 (res_tmp (v := (I 0)) rfl res_nil) rfl) ⟨rfl, rfl⟩ (H.sel' [] rfl rfl)
    · replace h := bif_f hb10 h
      refine c_skip ?_
      refine q_then ?_
      refine c_seq ?_
      refine rg ?_
      refine st (v := (I (-1))) (rv_assign rfl) ?_
      refine w_end ?_
      refine q_then ?_
      refine c_ret ?_
      refine q_then_r ?_
      obtain rfl := Option.some.inj h
      exact fin_ret (v := (I (-1))) (results_ok Try.results56 (res_tmp (v := (I (-1))) rfl res_nil) rfl) ⟨rfl, rfl⟩ (H.sel' [] rfl rfl)
  · replace h := bif_f hb9 h
    refine c_skip ?_
    refine q_then ?_
    refine c_seq ?_
    refine c_seq ?_
    refine rg ?_
    refine st (v := (B r5)) (rv_move rfl) ?_
    refine w_end ?_
    refine q_then ?_
    refine cd_cond r5 rfl (fun hb11 => ?_) (fun hb11 => ?_)
    · replace h := bif_t hb11 h
      refine c_seq ?_
      refine rg ?_
      refine st (v := (I 1)) (rv_assign rfl) ?_
      refine w_end ?_
      refine q_then ?_
      refine c_ret ?_
      refine q_then_r ?_
      obtain rfl := Option.some.inj h
      exact fin_ret (v := (I 1)) (results_ok Try.results56 (res_tmp (v := (I 1)) rfl res_nil) rfl) ⟨rfl, rfl⟩ (H.sel' [] rfl rfl)
    · replace h := bif_f hb11 h
      refine c_skip ?_
      refine q_then ?_
      refine c_seq ?_
      refine c_seq ?_
      refine rg ?_
      refine st (v := (I x_0)) (rv_move rfl) ?_
      refine st (v := (I y_1)) (rv_move rfl) ?_
      refine st (v := (B (decide (x_0 < y_1)))) (rv_lss (a := x_0) (b := y_1) rfl rfl) ?_
      refine w_end ?_
      refine q_then ?_
      refine cd_cond (decide (x_0 < y_1)) rfl (fun hb12 => ?_) (fun hb12 => ?_)
      · replace h := bif_t hb12 h
        refine c_seq ?_
        refine rg ?_
        refine st (v := (I (-1))) (rv_assign rfl) ?_
        refine w_end ?_
        refine q_then ?_
        refine c_ret ?_
        refine q_then_r ?_
        obtain rfl := Option.some.inj h
        exact fin_ret (v := (I (-1))) (results_ok Try.results56 (res_tmp (v := (I (-1))) rfl res_nil) rfl) ⟨rfl, rfl⟩ (H.sel' [] rfl rfl)
      · replace h := bif_f hb12 h
        refine c_skip ?_
        refine q_then ?_
        refine c_seq ?_
        refine c_seq ?_
        refine rg ?_
        refine st (v := (I x_0)) (rv_move rfl) ?_
        refine st (v := (I y_1)) (rv_move rfl) ?_
        refine st (v := (B (decide (y_1 < x_0)))) (rv_gtr (a := x_0) (b := y_1) rfl rfl) ?_
        refine w_end ?_
        refine q_then ?_
        refine cd_cond (decide (y_1 < x_0)) rfl (fun hb13 => ?_) (fun hb13 => ?_)
        · replace h := bif_t hb13 h
          refine c_seq ?_
          refine rg ?_
          refine st (v := (I 1)) (rv_assign rfl) ?_
          refine w_end ?_
          refine q_then ?_
          refine c_ret ?_
          refine q_then_r ?_
          obtain rfl := Option.some.inj h
          exact fin_ret (v := (I 1)) (results_ok Try.results56 (res_tmp (v := (I 1)) rfl res_nil) rfl) ⟨rfl, rfl⟩ (H.sel' [] rfl rfl)
        · replace h := bif_f hb13 h
          refine c_skip ?_
          refine q_then ?_
          refine c_seq ?_
          refine rg ?_
          refine st (v := (I 0)) (rv_assign rfl) ?_
          refine w_end ?_
          refine q_then ?_
          refine c_ret ?_
          obtain rfl := Option.some.inj h
          exact fin_ret (v := (I 0)) (results_ok Try.results56 (res_tmp (v := (I 0)) rfl res_nil) rfl) ⟨rfl, rfl⟩ (H.sel' [] rfl rfl)

theorem c_impl_placeOf_1 {x_0 : Int × (List Int) × Int} {key_1 : Int} {ax_0_1 : Option Addr} {cx_0_1 : Nat} {r : Int} (h : M.impl_placeOf_1 x_0 key_1 = some r) :
    Cal2 Try.prog 55 [(.agg #[(I x_0.1), (Sl ax_0_1 x_0.2.1 cx_0_1), (I x_0.2.2)]), (I key_1)] [Ch.ro 0 (Sl ax_0_1 x_0.2.1 cx_0_1) x_0.2.1] (fun n0 v L => v = (I r) ∧ L = []) := by
  refine cal2 (n := 9) Try.func55 rfl rfl rfl rfl ?_
  intro S0 σ0 n0 hn0 H
  unfold M.impl_placeOf_1 at h
  refine c_seq ?_
  refine rg ?_
  refine st_ex (ex_box (cs := [(I x_0.1), (Sl ax_0_1 x_0.2.1 cx_0_1), (I x_0.2.2)]) H hn0 rfl rfl) (wanted_none _ rfl _) ?_
  rintro _ σ2 ⟨b1, rfl, H, -⟩
  refine st (v := (I 0)) (rv_assign rfl) ?_
  refine w_end ?_
  refine q_then ?_
  refine c_seq ?_
  refine rg ?_
  refine st (v := (pt b1 0)) (rv_fieldAddr (off := 0) (ft := 3) Try.underlying29 rfl ti3 rfl rfl) ?_
  have hc3 := H.cell (u := (I x_0.1)) (o' := 0) 0 0 rfl rfl rfl
  refine st (v := (I x_0.1)) (rv_load1 Try.underlying3 rfl rfl hc3) ?_
  refine st (v := (I key_1)) (rv_move rfl) ?_
  obtain ⟨r4, hx5, h'⟩ := bind_some h
  clear h
  have h := h'; clear h'
  have hc6 := c_cmp_Compare_int hx5
  refine st_call (cx_call hc6 (ent_f hc6.fn rfl) hn0 (show Hp S0 σ0 _ ([] ++ [Ch.bx n0 b1 0 [(I x_0.1), (Sl ax_0_1 x_0.2.1 cx_0_1), (I x_0.2.2)] [] [], Ch.ro 0 (Sl ax_0_1 x_0.2.1 cx_0_1) x_0.2.1]) from (H.sel' [0, 1] rfl rfl))) (wanted_none _ rfl _) ?_
  rintro _ σ7 ⟨_, ⟨rfl, rfl⟩, H, -⟩
  replace H : Hp S0 σ0 σ7 [Ch.bx n0 b1 0 [(I x_0.1), (Sl ax_0_1 x_0.2.1 cx_0_1), (I x_0.2.2)] [] [], Ch.ro 0 (Sl ax_0_1 x_0.2.1 cx_0_1) x_0.2.1] := H
  refine st (v := (I r4)) (rv_assign rfl) ?_
  refine w_end ?_
  refine q_then ?_
  refine c_ret ?_
  obtain rfl := Option.some.inj h
  exact fin_ret (v := (I r4)) (results_ok Try.results55 (res_tmp (v := (I r4)) rfl res_nil) rfl) ⟨rfl, rfl⟩ (H.sel' [] rfl rfl)

theorem c_slices_BinarySearchFunc_impl_Item_impl_Item_int__impl_placeOf_1 {x_0 : List (Int × (List Int) × Int)} {target_1 : Int} {ax_0 : Option Addr} {cx_0 : Nat} {r : Int × Bool} (h : M.slices_BinarySearchFunc_impl_Item_impl_Item_int__impl_placeOf_1 x_0 target_1 = some r) :
    Cal2 Try.prog 54 [(Sl ax_0 x_0 cx_0), (I target_1), (.func (.func 55) #[] #[])] [Ch.ro 0 (Sl ax_0 x_0 cx_0) x_0] (fun n0 v L => v = (.tuple #[(I r.1), (B r.2)]) ∧ L = []) := by
  refine cal2 (n := 49) Try.func54 rfl rfl rfl rfl ?_
  intro S0 σ0 n0 hn0 H
  unfold M.slices_BinarySearchFunc_impl_Item_impl_Item_int__impl_placeOf_1 at h
  refine c_seq ?_
  refine rg ?_
  refine st (v := (I 0)) (rv_assign rfl) ?_
  refine st (v := (B false)) (rv_assign rfl) ?_
  refine w_end ?_
  refine q_then ?_
  refine c_seq ?_
  refine rg ?_
  refine st (v := (Sl ax_0 x_0 cx_0)) (rv_move rfl) ?_
  refine st (v := (I (x_0.length : Int))) (rv_len Try.underlying23 rfl) ?_
  refine st (v := (I (x_0.length : Int))) (rv_assign rfl) ?_
  refine w_end ?_
  refine q_then ?_
  refine c_seq ?_
  refine rg ?_
  refine st (v := (I (x_0.length : Int))) (rv_move rfl) ?_
  refine st (v := (I 0)) (rv_assign rfl) ?_
  refine st (v := (I (x_0.length : Int))) (rv_assign rfl) ?_
  refine w_end ?_
  refine q_then ?_
  refine c_seq ?_
  obtain ⟨o1, hj, h'⟩ := bind_some h
  clear h
  refine c_cut (fun e a w => e = .normal ∧ ∃ (ρ : Nat → Value) (σ : St), a = fr 49 (updL ρ [(0, (Sl ax_0 x_0 cx_0)), (1, (I target_1)), (2, (.func (.func 55) #[] #[])), (8, (I (x_0.length : Int))), (9, (I o1))]) ∧ w = σ.w ∧ Hp S0 σ0 σ [Ch.ro 0 (Sl ax_0 x_0 cx_0) x_0]) ?_ ?_
  · clear h'
    rename _ = some o1 => h
    refine c_blk ?_
    refine wp_loopM _ h (fun s2 a w => ∃ (ρ : Nat → Value) (σ : St), a = fr 49 (updL ρ [(0, (Sl ax_0 x_0 cx_0)), (1, (I target_1)), (2, (.func (.func 55) #[] #[])), (8, (I (x_0.length : Int))), (9, (I s2.1)), (10, (I s2.2))]) ∧ w = σ.w ∧ Hp S0 σ0 σ [Ch.ro 0 (Sl ax_0 x_0 cx_0) x_0]) ⟨_, σ0, fr_join ⟨rfl, rfl, rfl, rfl, rfl, rfl, trivial⟩, rfl, H.sel' [0] rfl rfl⟩ ?_
    clear h H
    rintro s2 a w o ⟨ρ, σ3, rfl, rfl, H⟩ h hres
    refine c_seq ?_
    refine c_seq ?_
    refine rg ?_
    refine st (v := (I s2.1)) (rv_move rfl) ?_
    refine st (v := (I s2.2)) (rv_move rfl) ?_
    refine st (v := (B (decide (s2.1 < s2.2)))) (rv_lss (a := s2.1) (b := s2.2) rfl rfl) ?_
    refine w_end ?_
    refine q_then ?_
    refine cd_cond (decide (s2.1 < s2.2)) rfl (fun hb4 => ?_) (fun hb4 => ?_)
    · replace h := bif_t hb4 h
      refine c_skip ?_
      refine q_then ?_
      refine c_blk ?_
      refine c_seq ?_
      refine rg ?_
      refine st (v := (I s2.1)) (rv_move rfl) ?_
      refine st (v := (I s2.2)) (rv_move rfl) ?_
      refine st (v := (I (w64 (s2.1 + s2.2)))) (rv_add (a := s2.1) (b := s2.2) rfl rfl) ?_
      refine st (v := (.int .u64 (wk .u64 (w64 (s2.1 + s2.2))))) (rvk_conv (k := .i64) (k' := .u64) (a := (w64 (s2.1 + s2.2))) Try.underlying3 Try.underlying74 rfl) ?_
      refine st (v := (.int .u64 (gshr .u64 (wk .u64 (w64 (s2.1 + s2.2))) 1))) (rvk_shr (k := .u64) (k' := .u64) (a := (wk .u64 (w64 (s2.1 + s2.2)))) (b := 1) rfl rfl (by decide)) ?_
      refine st (v := (I (wk .i64 (gshr .u64 (wk .u64 (w64 (s2.1 + s2.2))) 1)))) (rvk_conv (k := .u64) (k' := .i64) (a := (gshr .u64 (wk .u64 (w64 (s2.1 + s2.2))) 1)) Try.underlying74 Try.underlying3 rfl) ?_
      refine st (v := (I (wk .i64 (gshr .u64 (wk .u64 (w64 (s2.1 + s2.2))) 1)))) (rv_assign rfl) ?_
      refine w_end ?_
      refine q_then ?_
      refine c_seq ?_
      refine rg ?_
      refine st (v := (.func (.func 55) #[] #[])) (rv_move rfl) ?_
      refine st (v := (Sl ax_0 x_0 cx_0)) (rv_move rfl) ?_
      refine st (v := (I (wk .i64 (gshr .u64 (wk .u64 (w64 (s2.1 + s2.2))) 1)))) (rv_move rfl) ?_
      obtain ⟨x5, hx6, h'⟩ := bind_some h
      clear h
      have h := h'; clear h'
      obtain ⟨b8, o9, hi7, -⟩ := (H.ro 0 rfl).ix hx6
      refine st (v := (pt b8 o9)) (rv_ix Try.underlying23 ti29 rfl rfl hi7) ?_
      obtain ⟨_, ⟨_, _, rfl, rfl, ⟨_, _, rfl, ⟨_, rfl, hR14⟩, rfl⟩⟩, hl10, hc11⟩ := ((H.ro 0 rfl).at hx6 hi7).cells
      obtain ⟨a12, c13, rfl⟩ := hR14.isSl
      replace H := H.add (d := Ch.ro 0 (Sl a12 x5.2.1 c13) x5.2.1) hR14 (fun _ h => h)
      clear hR14
      refine st (v := (.agg #[(I x5.1), (Sl a12 x5.2.1 c13), (I x5.2.2)])) (rv_load Try.underlying29 rfl ti29 rfl hl10 hc11) ?_
      refine st (v := (I target_1)) (rv_move rfl) ?_
      obtain ⟨r15, hx16, h'⟩ := bind_some h
      clear h
      have h := h'; clear h'
      have hc17 := c_impl_placeOf_1 (ax_0_1 := a12) (cx_0_1 := c13) hx16
      refine st_call (cx_call hc17 (ent_v (cap := []) hc17.fn rfl rfl) hn0 (show Hp S0 σ0 _ ([Ch.ro 0 (Sl a12 x5.2.1 c13) x5.2.1] ++ [Ch.ro 0 (Sl a12 x5.2.1 c13) x5.2.1, Ch.ro 0 (Sl ax_0 x_0 cx_0) x_0]) from (H.sel' [0, 0, 1] rfl rfl))) (wanted_none _ rfl _) ?_
      rintro _ σ18 ⟨_, ⟨rfl, rfl⟩, H, -⟩
      replace H : Hp S0 σ0 σ18 [Ch.ro 0 (Sl a12 x5.2.1 c13) x5.2.1, Ch.ro 0 (Sl ax_0 x_0 cx_0) x_0] := H
      refine st (v := (B (decide (r15 < 0)))) (rv_lss (a := r15) (b := 0) rfl rfl) ?_
      refine w_end ?_
      refine q_then ?_
      refine cd_cond (decide (r15 < 0)) rfl (fun hb19 => ?_) (fun hb19 => ?_)
      · replace h := bif_t hb19 h
        refine rg ?_
        refine st (v := (I (wk .i64 (gshr .u64 (wk .u64 (w64 (s2.1 + s2.2))) 1)))) (rv_move rfl) ?_
        refine st (v := (I (w64 ((wk .i64 (gshr .u64 (wk .u64 (w64 (s2.1 + s2.2))) 1)) + 1)))) (rv_add (a := (wk .i64 (gshr .u64 (wk .u64 (w64 (s2.1 + s2.2))) 1))) (b := 1) rfl rfl) ?_
        refine st (v := (I (w64 ((wk .i64 (gshr .u64 (wk .u64 (w64 (s2.1 + s2.2))) 1)) + 1)))) (rv_assign rfl) ?_
        refine w_end ?_
        refine q_blk ?_
        refine q_then ?_
        obtain rfl := Option.some.inj h
        exact ⟨_, rfl, _, σ18, fr_join ⟨rfl, rfl, rfl, rfl, rfl, rfl, trivial⟩, rfl, H.sel' [1] rfl rfl⟩
      · replace h := bif_f hb19 h
        refine rg ?_
        refine st (v := (I (wk .i64 (gshr .u64 (wk .u64 (w64 (s2.1 + s2.2))) 1)))) (rv_move rfl) ?_
        refine st (v := (I (wk .i64 (gshr .u64 (wk .u64 (w64 (s2.1 + s2.2))) 1)))) (rv_assign rfl) ?_
        refine w_end ?_
        refine q_blk ?_
        refine q_then ?_
        obtain rfl := Option.some.inj h
        exact ⟨_, rfl, _, σ18, fr_join ⟨rfl, rfl, rfl, rfl, rfl, rfl, trivial⟩, rfl, H.sel' [1] rfl rfl⟩
    · replace h := bif_f hb4 h
      refine c_exit ?_
      refine q_then_x ?_
      refine q_then_x ?_
      refine q_blk_hit ?_
      obtain rfl := Option.some.inj h
      obtain rfl := hres _ rfl
      exact ⟨rfl, _, σ3, fr_join ⟨rfl, rfl, rfl, rfl, rfl, trivial⟩, rfl, H.sel' [0] rfl rfl⟩
  · clear hj
    have h := h'
    clear h' H
    rintro e a w ⟨rfl, ρ, σ20, rfl, rfl, H⟩
    refine q_then ?_
    refine c_seq ?_
    refine rg ?_
    refine st (v := (I o1)) (rv_move rfl) ?_
    refine st (v := (I o1)) (rv_move rfl) ?_
    refine st (v := (I (x_0.length : Int))) (rv_move rfl) ?_
    refine st (v := (B (decide (o1 < (x_0.length : Int))))) (rv_lss (a := o1) (b := (x_0.length : Int)) rfl rfl) ?_
    refine st (v := (B (decide (o1 < (x_0.length : Int))))) (rv_move rfl) ?_
    rcases Bool.eq_false_or_eq_true (decide (o1 < (x_0.length : Int))) with hb21 | hb21
    · replace h := bif_t hb21 h
      refine st_g (v := (.func (.func 55) #[] #[])) (congrArg some hb21) (rv_move rfl) ?_
      refine st_g (v := (Sl ax_0 x_0 cx_0)) (congrArg some hb21) (rv_move rfl) ?_
      refine st_g (v := (I o1)) (congrArg some hb21) (rv_move rfl) ?_
      obtain ⟨x22, hx23, h'⟩ := bind_some h
      clear h
      have h := h'; clear h'
      obtain ⟨b25, o26, hi24, -⟩ := (H.ro 0 rfl).ix hx23
      refine st_g (v := (pt b25 o26)) (congrArg some hb21) (rv_ix Try.underlying23 ti29 rfl rfl hi24) ?_
      obtain ⟨_, ⟨_, _, rfl, rfl, ⟨_, _, rfl, ⟨_, rfl, hR31⟩, rfl⟩⟩, hl27, hc28⟩ := ((H.ro 0 rfl).at hx23 hi24).cells
      obtain ⟨a29, c30, rfl⟩ := hR31.isSl
      replace H := H.add (d := Ch.ro 0 (Sl a29 x22.2.1 c30) x22.2.1) hR31 (fun _ h => h)
      clear hR31
      refine st_g (v := (.agg #[(I x22.1), (Sl a29 x22.2.1 c30), (I x22.2.2)])) (congrArg some hb21) (rv_load Try.underlying29 rfl ti29 rfl hl27 hc28) ?_
      refine st_g (v := (I target_1)) (congrArg some hb21) (rv_move rfl) ?_
      obtain ⟨r32, hx33, h'⟩ := bind_some h
      clear h
      have h := h'; clear h'
      have hc34 := c_impl_placeOf_1 (ax_0_1 := a29) (cx_0_1 := c30) hx33
      refine st_call (cx_call hc34 (ent_v (cap := []) hc34.fn rfl rfl) hn0 (show Hp S0 σ0 _ ([Ch.ro 0 (Sl a29 x22.2.1 c30) x22.2.1] ++ [Ch.ro 0 (Sl a29 x22.2.1 c30) x22.2.1, Ch.ro 0 (Sl ax_0 x_0 cx_0) x_0]) from (H.sel' [0, 0, 1] rfl rfl))) (wanted_yes rfl (by exact (congrArg some hb21))) ?_
      rintro _ σ35 ⟨_, ⟨rfl, rfl⟩, H, -⟩
      replace H : Hp S0 σ0 σ35 [Ch.ro 0 (Sl a29 x22.2.1 c30) x22.2.1, Ch.ro 0 (Sl ax_0 x_0 cx_0) x_0] := H
      refine st_g (v := (B (r32 == 0))) (congrArg some hb21) (rv_eql (a := r32) (b := 0) rfl rfl) ?_
      refine st (v := (B (r32 == 0))) (rv_pick_t (congrArg B hb21) rfl) ?_
      refine st (v := (I o1)) (rv_assign rfl) ?_
      refine st (v := (B (r32 == 0))) (rv_assign rfl) ?_
      refine w_end ?_
      refine q_then ?_
      refine c_ret ?_
      obtain rfl := Option.some.inj h
      exact fin_ret (v := (.tuple #[(I o1), (B (r32 == 0))])) (results_ok Try.results54 (res_tmp (v := (I o1)) rfl (res_tmp (v := (B (r32 == 0))) rfl res_nil)) rfl) ⟨rfl, rfl⟩ (H.sel' [] rfl rfl)
    · replace h := bif_f hb21 h
      refine st_skip (congrArg some hb21) ?_
      refine st_skip (congrArg some hb21) ?_
      refine st_skip (congrArg some hb21) ?_
      refine st_skip (congrArg some hb21) ?_
      refine st_skip (congrArg some hb21) ?_
      refine st_skip (congrArg some hb21) ?_
      refine st_skip (congrArg some hb21) ?_
      refine st_skip (congrArg some hb21) ?_
      refine st (v := (B false)) (rv_pick_f (congrArg B hb21) rfl) ?_
      refine st (v := (I o1)) (rv_assign rfl) ?_
      refine st (v := (B false)) (rv_assign rfl) ?_
      refine w_end ?_
      refine q_then ?_
      refine c_ret ?_
      obtain rfl := Option.some.inj h
      exact fin_ret (v := (.tuple #[(I o1), (B false)])) (results_ok Try.results54 (res_tmp (v := (I o1)) rfl (res_tmp (v := (B false)) rfl res_nil)) rfl) ⟨rfl, rfl⟩ (H.sel' [] rfl rfl)

theorem c_impl_placeOf {list_0 : List (Int × (List Int) × Int)} {key_1 : Int} {alist_0 : Option Addr} {clist_0 : Nat} {r : Int × Bool} (h : M.impl_placeOf list_0 key_1 = some r) :
    Cal2 Try.prog 36 [(Sl alist_0 list_0 clist_0), (I key_1)] [Ch.ro 0 (Sl alist_0 list_0 clist_0) list_0] (fun n0 v L => v = (.tuple #[(I r.1), (B r.2)]) ∧ L = []) := by
  refine cal2 (n := 11) Try.func36 rfl rfl rfl rfl ?_
  intro S0 σ0 n0 hn0 H
  unfold M.impl_placeOf at h
  refine c_seq ?_
  refine rg ?_
  refine st (v := (I 0)) (rv_assign rfl) ?_
  refine st (v := (B false)) (rv_assign rfl) ?_
  refine w_end ?_
  refine q_then ?_
  refine c_seq ?_
  refine rg ?_
  refine st (v := (Sl alist_0 list_0 clist_0)) (rv_move rfl) ?_
  refine st (v := (I key_1)) (rv_move rfl) ?_
  obtain ⟨r1, hx2, h'⟩ := bind_some h
  clear h
  have h := h'; clear h'
  have hc3 := c_slices_BinarySearchFunc_impl_Item_impl_Item_int__impl_placeOf_1 (ax_0 := alist_0) (cx_0 := clist_0) hx2
  refine st_call (cx_call hc3 (ent_f hc3.fn rfl) hn0 (show Hp S0 σ0 _ ([Ch.ro 0 (Sl alist_0 list_0 clist_0) list_0] ++ [Ch.ro 0 (Sl alist_0 list_0 clist_0) list_0]) from (H.sel' [0, 0] rfl rfl))) (wanted_none _ rfl _) ?_
  rintro _ σ4 ⟨_, ⟨rfl, rfl⟩, H, -⟩
  replace H : Hp S0 σ0 σ4 [Ch.ro 0 (Sl alist_0 list_0 clist_0) list_0] := H
  refine st (v := (I r1.1)) (rv_extract rfl rfl) ?_
  refine st (v := (B r1.2)) (rv_extract rfl rfl) ?_
  refine st (v := (I r1.1)) (rv_assign rfl) ?_
  refine st (v := (B r1.2)) (rv_assign rfl) ?_
  refine w_end ?_
  refine q_then ?_
  refine c_ret ?_
  obtain rfl := Option.some.inj h
  exact fin_ret (v := (.tuple #[(I r1.1), (B r1.2)])) (results_ok Try.results36 (res_tmp (v := (I r1.1)) rfl (res_tmp (v := (B r1.2)) rfl res_nil)) rfl) ⟨rfl, rfl⟩ (H.sel' [] rfl rfl)

theorem c_slices_Clone_int_int {s_0 : List Int} {as_0 : Option Addr} {cs_0 : Nat} {r : (List Int)} (h : M.slices_Clone_int_int s_0 = some r) :
    Cal2 Try.prog 57 [(Sl as_0 s_0 cs_0)] [Ch.ro 0 (Sl as_0 s_0 cs_0) s_0] (fun n0 v L => ∃ (az1 : Option Addr), ∃ (cz2 : Nat), v = (Sl az1 r cz2) ∧ L = [Ch.own n0 n0 (Sl az1 r cz2) r]) := by
  refine cal2 (n := 8) Try.func57 rfl rfl rfl rfl ?_
  intro S0 σ0 n0 hn0 H
  unfold M.slices_Clone_int_int at h
  refine c_seq ?_
  refine rg ?_
  refine st (v := (.slice none 0 0)) (rv_assign rfl) ?_
  refine w_end ?_
  refine q_then ?_
  refine c_seq ?_
  refine c_seq ?_
  refine rg ?_
  refine st (v := (Sl as_0 s_0 cs_0)) (rv_move rfl) ?_
  refine st (v := (B as_0.isNone)) (rv_nilS Try.underlying27 rfl rfl) ?_
  refine w_end ?_
  refine q_then ?_
  refine cd_cond as_0.isNone rfl (fun hb1 => ?_) (fun hb1 => ?_)
  · have hq := RS.nilOf hb1 (H.ro 0 rfl)
    subst hq
    replace h : some [] = some r := by simpa [gapp] using h
    refine c_seq ?_
    refine rg ?_
    refine st (v := (.slice none 0 0)) (rv_assign rfl) ?_
    refine w_end ?_
    refine q_then ?_
    refine c_ret ?_
    refine q_then_r ?_
    replace H := H.nilOwn Int n0 n0
    obtain rfl := Option.some.inj h
    exact fin_ret (v := (.slice none 0 0)) (results_ok Try.results57 (res_tmp (v := (.slice none 0 0)) rfl res_nil) rfl) ⟨none, 0, rfl, rfl⟩ (H.sel' [0] rfl rfl)
  · refine c_skip ?_
    refine q_then ?_
    refine c_seq ?_
    refine rg ?_
    refine st_ex (ex_buildSlice (el := n0) (xs := ([] : List Int)) (ps := []) (cs := []) H hn0 Try.underlying27 ti3 rfl rfl (by kernel_rfl) (.nil) rfl) (wanted_none _ rfl _) ?_
    rintro _ σ3 ⟨b2, rfl, H, -⟩
    refine st (v := (Sl as_0 s_0 cs_0)) (rv_move rfl) ?_
    obtain ⟨xs4, hx5, h'⟩ := bind_some h
    clear h
    have h := h'; clear h'
    refine st_ex (ex_append H (i := 0) rfl Try.underlying27 Try.underlying27 ti3 rfl rfl (by decide) ((H.ro 1 rfl).rd.sc) hx5 hn0 rfl rfl) (wanted_none _ rfl _) ?_
    rintro _ σ8 ⟨a6, c7, rfl, H, -⟩
    refine st (v := (Sl a6 xs4 c7)) (rv_assign rfl) ?_
    refine w_end ?_
    refine q_then ?_
    refine c_ret ?_
    obtain rfl := Option.some.inj h
    exact fin_ret (v := (Sl a6 xs4 c7)) (results_ok Try.results57 (res_tmp (v := (Sl a6 xs4 c7)) rfl res_nil) rfl) ⟨a6, c7, rfl, rfl⟩ (H.sel' [0] rfl rfl)

theorem c_impl_copyItem {x_0 : Int × (List Int) × Int} {ax_0_1 : Option Addr} {cx_0_1 : Nat} {r : (Int × (List Int) × Int)} (h : M.impl_copyItem x_0 = some r) :
    Cal2 Try.prog 38 [(.agg #[(I x_0.1), (Sl ax_0_1 x_0.2.1 cx_0_1), (I x_0.2.2)])] [Ch.ro 0 (Sl ax_0_1 x_0.2.1 cx_0_1) x_0.2.1] (fun n0 v L => ∃ (az1 : Option Addr), ∃ (cz2 : Nat), v = (.agg #[(I r.1), (Sl az1 r.2.1 cz2), (I r.2.2)]) ∧ L = [Ch.own n0 n0 (Sl az1 r.2.1 cz2) r.2.1]) := by
  refine cal2 (n := 11) Try.func38 rfl rfl rfl rfl ?_
  intro S0 σ0 n0 hn0 H
  unfold M.impl_copyItem at h
  refine c_seq ?_
  refine rg ?_
  refine st_ex (ex_box (cs := [(I x_0.1), (Sl ax_0_1 x_0.2.1 cx_0_1), (I x_0.2.2)]) H hn0 rfl rfl) (wanted_none _ rfl _) ?_
  rintro _ σ2 ⟨b1, rfl, H, -⟩
  refine st_ex (ex_alloc (cs := [(I 0), (.slice none 0 0), (I 0)]) H hn0 ti29 rfl) (wanted_none _ rfl _) ?_
  rintro _ σ4 ⟨b3, rfl, H, -⟩
  refine w_end ?_
  refine q_then ?_
  refine c_seq ?_
  have hc5 := H.cell (u := (I x_0.1)) (o' := 0) 1 0 rfl rfl rfl
  have hc6 := H.cell (u := (Sl ax_0_1 x_0.2.1 cx_0_1)) (o' := 1) 1 1 rfl rfl rfl
  obtain ⟨r7, hx8, h'⟩ := bind_some h
  clear h
  have h := h'; clear h'
  have hc9 := c_slices_Clone_int_int (as_0 := ax_0_1) (cs_0 := cx_0_1) hx8
  have hc12 := H.cell (u := (I x_0.2.2)) (o' := 2) 1 2 rfl rfl rfl
  have Hs := H
  refine rg2 (σ := σ4) (Nm := (Option Addr) × (Nat)) 7 [4] [[false], [true]] [[(0, 0), (1, 1)], [(0, 0), (1, 1)], [(0, 0)], [(0, 0)], [(0, 1)], [(0, 0), (1, 1)], [(0, 0), (1, 1)]] 1 [fun ((a10, c11) : (Option Addr) × (Nat)) => fun σm => Hp S0 σ0 σm [Ch.bx n0 b3 0 [(I 0), (.slice none 0 0), (I 0)] [] [], Ch.bx n0 b1 0 [(I x_0.1), (Sl ax_0_1 x_0.2.1 cx_0_1), (I x_0.2.2)] [] [], Ch.ro 0 (Sl ax_0_1 x_0.2.1 cx_0_1) x_0.2.1] ∧ Md (cov []) σ4 σm, fun ((a10, c11) : (Option Addr) × (Nat)) => fun σm => Hp S0 σ0 σm [Ch.own n0 n0 (Sl a10 r7 c11) r7, Ch.bx n0 b3 0 [(I 0), (.slice none 0 0), (I 0)] [] [], Ch.bx n0 b1 0 [(I x_0.1), (Sl ax_0_1 x_0.2.1 cx_0_1), (I x_0.2.2)] [] [], Ch.ro 0 (Sl ax_0_1 x_0.2.1 cx_0_1) x_0.2.1] ∧ Md (cov []) σ4 σm] [fun ((a10, c11) : (Option Addr) × (Nat)) => (pt b1 0), fun ((a10, c11) : (Option Addr) × (Nat)) => (I x_0.1), fun ((a10, c11) : (Option Addr) × (Nat)) => (pt b1 1), fun ((a10, c11) : (Option Addr) × (Nat)) => (Sl ax_0_1 x_0.2.1 cx_0_1), fun ((a10, c11) : (Option Addr) × (Nat)) => (Sl a10 r7 c11), fun ((a10, c11) : (Option Addr) × (Nat)) => (pt b1 2), fun ((a10, c11) : (Option Addr) × (Nat)) => (I x_0.2.2)] (none, 0) (by kernel_rfl) (by kernel_rfl) ?_ ?_ ?_
  · intro σm m0
    exact ⟨H.grow (m0.mono fun _ h => h.elim), m0⟩
  · refine all_cons (obs_v rfl (by
        intro k; rintro ⟨a10, c11⟩ ρ σm hJ hoff hdep
        have e1 : look 11 ρ 1 = (pt b1 0) := look_off (hoff 1 rfl) rfl
        exact dp_v (v := (pt b1 0)) (wanted_none _ rfl _) (rv_fieldAddr (off := 0) (ft := 3) Try.underlying29 rfl ti3 rfl e1) rfl hJ)) ?_
    refine all_cons (by
        refine ⟨?_, ?_⟩
        · rintro ⟨a10, c11⟩ ρ σm hJ hoff hdep
          have e3 : look 11 ρ 3 = (pt b1 0) := hdep 0 rfl rfl 3 rfl
          obtain ⟨H, m⟩ := (show Hp S0 σ0 σm [Ch.bx n0 b3 0 [(I 0), (.slice none 0 0), (I 0)] [] [], Ch.bx n0 b1 0 [(I x_0.1), (Sl ax_0_1 x_0.2.1 cx_0_1), (I x_0.2.2)] [] [], Ch.ro 0 (Sl ax_0_1 x_0.2.1 cx_0_1) x_0.2.1] ∧ Md (cov []) σ4 σm from hJ)
          have hc5 := H.cell (u := (I x_0.1)) (o' := 0) 1 0 rfl rfl rfl
          exact dp_v (v := (I x_0.1)) (wanted_none _ rfl _) (rv_load1 Try.underlying3 rfl e3 hc5) rfl hJ
        refine ⟨?_, ?_⟩
        · rintro ⟨a10, c11⟩ ρ σm hJ hoff hdep
          have e3 : look 11 ρ 3 = (pt b1 0) := hdep 0 rfl rfl 3 rfl
          obtain ⟨H, m⟩ := (show Hp S0 σ0 σm [Ch.own n0 n0 (Sl a10 r7 c11) r7, Ch.bx n0 b3 0 [(I 0), (.slice none 0 0), (I 0)] [] [], Ch.bx n0 b1 0 [(I x_0.1), (Sl ax_0_1 x_0.2.1 cx_0_1), (I x_0.2.2)] [] [], Ch.ro 0 (Sl ax_0_1 x_0.2.1 cx_0_1) x_0.2.1] ∧ Md (cov []) σ4 σm from hJ)
          have hc5 := H.cell (u := (I x_0.1)) (o' := 0) 2 0 rfl rfl rfl
          exact dp_v (v := (I x_0.1)) (wanted_none _ rfl _) (rv_load1 Try.underlying3 rfl e3 hc5) rfl hJ
        trivial) ?_
    refine all_cons (obs_v rfl (by
        intro k; rintro ⟨a10, c11⟩ ρ σm hJ hoff hdep
        have e1 : look 11 ρ 1 = (pt b1 0) := look_off (hoff 1 rfl) rfl
        exact dp_v (v := (pt b1 1)) (wanted_none _ rfl _) (rv_fieldAddr (off := 1) (ft := 27) Try.underlying29 rfl ti27 rfl e1) rfl hJ)) ?_
    refine all_cons (by
        refine ⟨?_, ?_⟩
        · rintro ⟨a10, c11⟩ ρ σm hJ hoff hdep
          have e5 : look 11 ρ 5 = (pt b1 1) := hdep 2 rfl rfl 5 rfl
          obtain ⟨H, m⟩ := (show Hp S0 σ0 σm [Ch.bx n0 b3 0 [(I 0), (.slice none 0 0), (I 0)] [] [], Ch.bx n0 b1 0 [(I x_0.1), (Sl ax_0_1 x_0.2.1 cx_0_1), (I x_0.2.2)] [] [], Ch.ro 0 (Sl ax_0_1 x_0.2.1 cx_0_1) x_0.2.1] ∧ Md (cov []) σ4 σm from hJ)
          have hc6 := H.cell (u := (Sl ax_0_1 x_0.2.1 cx_0_1)) (o' := 1) 1 1 rfl rfl rfl
          exact dp_v (v := (Sl ax_0_1 x_0.2.1 cx_0_1)) (wanted_none _ rfl _) (rv_load1 Try.underlying27 rfl e5 hc6) rfl hJ
        trivial) ?_
    refine all_cons (by
        refine ⟨?_, ?_⟩
        · rintro ⟨a10, c11⟩ ρ σm hJ hoff hdep
          have e6 : look 11 ρ 6 = (Sl ax_0_1 x_0.2.1 cx_0_1) := hdep 3 rfl rfl 6 rfl
          obtain ⟨H, m⟩ := (show Hp S0 σ0 σm [Ch.bx n0 b3 0 [(I 0), (.slice none 0 0), (I 0)] [] [], Ch.bx n0 b1 0 [(I x_0.1), (Sl ax_0_1 x_0.2.1 cx_0_1), (I x_0.2.2)] [] [], Ch.ro 0 (Sl ax_0_1 x_0.2.1 cx_0_1) x_0.2.1] ∧ Md (cov []) σ4 σm from hJ)
          refine dp_cx (wanted_none _ rfl _) (cx_call hc9 (ent_f hc9.fn (by show [look 11 ρ 6] = _; rw [e6])) hn0 (show Hp S0 σ0 _ ([Ch.ro 0 (Sl ax_0_1 x_0.2.1 cx_0_1) x_0.2.1] ++ [Ch.bx n0 b3 0 [(I 0), (.slice none 0 0), (I 0)] [] [], Ch.bx n0 b1 0 [(I x_0.1), (Sl ax_0_1 x_0.2.1 cx_0_1), (I x_0.2.2)] [] [], Ch.ro 0 (Sl ax_0_1 x_0.2.1 cx_0_1) x_0.2.1]) from (H.sel' [2, 0, 1, 2] rfl rfl))) ?_
          rintro _ σq ⟨_, ⟨a10x, c11x, rfl, rfl⟩, H2, m2⟩
          exact ⟨_, (a10x, c11x), rfl, rfl, ⟨H2.sel' [0, 1, 2, 3] rfl rfl, m.comp0 (m2.mono (fun i h => by simp [cov, Ch.ro] at h))⟩, stab [0, 1, 2, 3, 5, 6] (by kernel_rfl) ⟨rfl, rfl, rfl, rfl, rfl, rfl, trivial⟩⟩
        trivial) ?_
    refine all_cons (obs_v rfl (by
        intro k; rintro ⟨a10, c11⟩ ρ σm hJ hoff hdep
        have e1 : look 11 ρ 1 = (pt b1 0) := look_off (hoff 1 rfl) rfl
        exact dp_v (v := (pt b1 2)) (wanted_none _ rfl _) (rv_fieldAddr (off := 2) (ft := 3) Try.underlying29 rfl ti3 rfl e1) rfl hJ)) ?_
    refine all_cons (by
        refine ⟨?_, ?_⟩
        · rintro ⟨a10, c11⟩ ρ σm hJ hoff hdep
          have e8 : look 11 ρ 8 = (pt b1 2) := hdep 5 rfl rfl 8 rfl
          obtain ⟨H, m⟩ := (show Hp S0 σ0 σm [Ch.bx n0 b3 0 [(I 0), (.slice none 0 0), (I 0)] [] [], Ch.bx n0 b1 0 [(I x_0.1), (Sl ax_0_1 x_0.2.1 cx_0_1), (I x_0.2.2)] [] [], Ch.ro 0 (Sl ax_0_1 x_0.2.1 cx_0_1) x_0.2.1] ∧ Md (cov []) σ4 σm from hJ)
          have hc12 := H.cell (u := (I x_0.2.2)) (o' := 2) 1 2 rfl rfl rfl
          exact dp_v (v := (I x_0.2.2)) (wanted_none _ rfl _) (rv_load1 Try.underlying3 rfl e8 hc12) rfl hJ
        refine ⟨?_, ?_⟩
        · rintro ⟨a10, c11⟩ ρ σm hJ hoff hdep
          have e8 : look 11 ρ 8 = (pt b1 2) := hdep 5 rfl rfl 8 rfl
          obtain ⟨H, m⟩ := (show Hp S0 σ0 σm [Ch.own n0 n0 (Sl a10 r7 c11) r7, Ch.bx n0 b3 0 [(I 0), (.slice none 0 0), (I 0)] [] [], Ch.bx n0 b1 0 [(I x_0.1), (Sl ax_0_1 x_0.2.1 cx_0_1), (I x_0.2.2)] [] [], Ch.ro 0 (Sl ax_0_1 x_0.2.1 cx_0_1) x_0.2.1] ∧ Md (cov []) σ4 σm from hJ)
          have hc12 := H.cell (u := (I x_0.2.2)) (o' := 2) 2 2 rfl rfl rfl
          exact dp_v (v := (I x_0.2.2)) (wanted_none _ rfl _) (rv_load1 Try.underlying3 rfl e8 hc12) rfl hJ
        trivial) ?_
    exact all_nil
  · rintro ⟨a10, c11⟩ ρ σ13 hJ hoff hrel
    have e2 : look 11 ρ 2 = (pt b3 0) := look_off (hoff 2 rfl) rfl
    have e4 : look 11 ρ 4 = (I x_0.1) := hrel 1 rfl 4 rfl
    have e7 : look 11 ρ 7 = (Sl a10 r7 c11) := hrel 4 rfl 7 rfl
    have e9 : look 11 ρ 9 = (I x_0.2.2) := hrel 6 rfl 9 rfl
    obtain ⟨H, -⟩ := (show Hp S0 σ0 σ13 [Ch.own n0 n0 (Sl a10 r7 c11) r7, Ch.bx n0 b3 0 [(I 0), (.slice none 0 0), (I 0)] [] [], Ch.bx n0 b1 0 [(I x_0.1), (Sl ax_0_1 x_0.2.1 cx_0_1), (I x_0.2.2)] [] [], Ch.ro 0 (Sl ax_0_1 x_0.2.1 cx_0_1) x_0.2.1] ∧ Md (cov []) σ4 σ13 from hJ)
    clear hJ Hs
    rw [fr_lookL (L := [(2, (pt b3 0)), (4, (I x_0.1)), (7, (Sl a10 r7 c11)), (9, (I x_0.2.2))]) ⟨e2, e4, e7, e9, trivial⟩]
    clear hoff hrel e2 e4 e7 e9
    refine st (v := (.agg #[(I x_0.1), (Sl a10 r7 c11), (I x_0.2.2)])) (rv_build (ps := [(0, (I x_0.1)), (1, (Sl a10 r7 c11)), (2, (I x_0.2.2))]) Try.underlying29 ti29 (bp29 Try.underlying29) rfl (by kernel_rfl)) ?_
    refine st_exS (ex_store_box (k := 0) (cs := [(I 0), (.slice none 0 0), (I 0)]) (vs := [(I x_0.1), (Sl a10 r7 c11), (I x_0.2.2)]) (cs' := [(I x_0.1), (Sl a10 r7 c11), (I x_0.2.2)]) H (i := 1) rfl ti29 rfl rfl rfl rfl rfl (Nat.le_of_ble_eq_true rfl) (by simp [plain]) rfl) (wanted_none _ rfl _) ?_
    rintro σ14 ⟨H, -⟩
    refine w_end ?_
    refine q_then ?_
    refine c_ret ?_
    obtain rfl := Option.some.inj h
    exact fin_ret (v := (.agg #[(I x_0.1), (Sl a10 r7 c11), (I x_0.2.2)])) (results_ok Try.results38 (res_cell rfl (run_cellRes (cs := [(I x_0.1), (Sl a10 r7 c11), (I x_0.2.2)]) Try.underlying29 rfl ti29 rfl (H.cells 0 rfl)) res_nil) rfl) ⟨a10, c11, rfl, rfl⟩ (H.sel' [1] rfl rfl)

theorem c_impl_copyItems {list_0 : List (Int × (List Int) × Int)} {alist_0 : Option Addr} {clist_0 : Nat} {r : (List (Int × (List Int) × Int))} (h : M.impl_copyItems list_0 = some r) :
    Cal2 Try.prog 37 [(Sl alist_0 list_0 clist_0)] [Ch.ro 0 (Sl alist_0 list_0 clist_0) list_0] (fun n0 v L => ∃ (az1 : Option Addr), ∃ (cz2 : Nat), v = (Sl az1 r cz2) ∧ L = [Ch.own n0 n0 (Sl az1 r cz2) r] ∧ cz2 = r.length) := by
  refine cal2 (n := 23) Try.func37 rfl rfl rfl rfl ?_
  intro S0 σ0 n0 hn0 H
  unfold M.impl_copyItems at h
  refine c_seq ?_
  refine rg ?_
  refine st (v := (.slice none 0 0)) (rv_assign rfl) ?_
  refine w_end ?_
  refine q_then ?_
  refine c_seq ?_
  refine rg ?_
  refine st (v := (Sl alist_0 list_0 clist_0)) (rv_move rfl) ?_
  refine st (v := (I (list_0.length : Int))) (rv_len Try.underlying23 rfl) ?_
  obtain ⟨xs1, hx2, h'⟩ := bind_some h
  clear h
  have h := h'; clear h'
  refine st_ex (ex_make (el := n0) (z0 := ((0, [], 0) : Int × (List Int) × Int)) (zs := [(I 0), (.slice none 0 0), (I 0)]) H hn0 Try.underlying23 ti29 rfl rfl (⟨[(I 0)], [(.slice none 0 0), (I 0)], rfl, rfl, ⟨[(.slice none 0 0)], [(I 0)], rfl, ⟨_, rfl, RS.nil⟩, rfl⟩⟩) (by decide) hx2 rfl rfl) (wanted_none _ rfl _) ?_
  rintro _ σ6 ⟨b3, c4, rfl, ht5, H, -⟩
  replace ht5 := ht5.trans (gmake_len hx2).symm
  refine st (v := (Sl (some ⟨b3, 0, none⟩) xs1 c4)) (rv_assign rfl) ?_
  refine w_end ?_
  refine q_then ?_
  refine c_seq ?_
  refine c_seq ?_
  refine rg ?_
  refine st (v := (Sl alist_0 list_0 clist_0)) (rv_move rfl) ?_
  refine st (v := (I (list_0.length : Int))) (rv_len Try.underlying23 rfl) ?_
  refine st (v := (I 0)) (rv_move rfl) ?_
  refine w_end ?_
  refine q_then ?_
  obtain ⟨o7, hj, h'⟩ := bind_some h
  clear h
  refine c_cut (fun e a w => e = .normal ∧ ∃ (ρ : Nat → Value) (σ : St), a = fr 23 (updL ρ [(3, (Sl (some ⟨b3, 0, none⟩) o7 c4))]) ∧ w = σ.w ∧ Hp S0 σ0 σ [Ch.own n0 n0 (Sl (some ⟨b3, 0, none⟩) o7 c4) o7] ∧ c4 = o7.length ∧ o7.length = xs1.length) ?_ ?_
  · clear h'
    rename _ = some o7 => h
    refine c_blk ?_
    refine wp_loopM _ h (fun s8 a w => ∃ (ρ : Nat → Value) (σ : St), a = fr 23 (updL ρ [(3, (Sl (some ⟨b3, 0, none⟩) s8.1 c4)), (9, (Sl alist_0 list_0 clist_0)), (10, (I (list_0.length : Int))), (11, (I s8.2))]) ∧ w = σ.w ∧ Hp S0 σ0 σ [Ch.own n0 n0 (Sl (some ⟨b3, 0, none⟩) s8.1 c4) s8.1, Ch.ro 0 (Sl alist_0 list_0 clist_0) list_0] ∧ c4 = s8.1.length ∧ s8.1.length = xs1.length) ⟨_, σ6, fr_join ⟨rfl, rfl, rfl, rfl, trivial⟩, rfl, H.sel' [0, 1] rfl rfl, ht5, rfl⟩ ?_
    clear h H
    rintro s8 a w o ⟨ρ, σ9, rfl, rfl, H, ht10, hn11⟩ h hres
    refine c_seq ?_
    refine rg ?_
    refine st (v := (B (decide (s8.2 < (list_0.length : Int))))) (rv_lss (a := s8.2) (b := (list_0.length : Int)) rfl rfl) ?_
    refine w_end ?_
    refine q_then ?_
    refine c_seq ?_
    refine cd_cond (decide (s8.2 < (list_0.length : Int))) rfl (fun hb12 => ?_) (fun hb12 => ?_)
    · replace h := bif_t hb12 h
      refine c_skip ?_
      refine q_then ?_
      refine c_seq ?_
      refine c_blk ?_
      refine c_seq ?_
      refine rg ?_
      refine st (v := (I s8.2)) (rv_move rfl) ?_
      obtain ⟨x13, hx14, h'⟩ := bind_some h
      clear h
      have h := h'; clear h'
      obtain ⟨b16, o17, hi15, -⟩ := (H.ro 1 rfl).ix hx14
      refine st (v := (pt b16 o17)) (rv_ix Try.underlying23 ti29 rfl rfl hi15) ?_
      obtain ⟨_, ⟨_, _, rfl, rfl, ⟨_, _, rfl, ⟨_, rfl, hR22⟩, rfl⟩⟩, hl18, hc19⟩ := ((H.ro 1 rfl).at hx14 hi15).cells
      obtain ⟨a20, c21, rfl⟩ := hR22.isSl
      replace H := H.add (d := Ch.ro 0 (Sl a20 x13.2.1 c21) x13.2.1) hR22 (fun _ h => h)
      clear hR22
      refine st (v := (.agg #[(I x13.1), (Sl a20 x13.2.1 c21), (I x13.2.2)])) (rv_load Try.underlying29 rfl ti29 rfl hl18 hc19) ?_
      refine st_ex (ex_alloc (cs := [(I 0), (.slice none 0 0), (I 0)]) H hn0 ti29 rfl) (wanted_none _ rfl _) ?_
      rintro _ σ24 ⟨b23, rfl, H, -⟩
      refine st (v := (I s8.2)) (rv_assign rfl) ?_
      refine st_exS (ex_store_box (k := 0) (cs := [(I 0), (.slice none 0 0), (I 0)]) (vs := [(I x13.1), (Sl a20 x13.2.1 c21), (I x13.2.2)]) (cs' := [(I x13.1), (Sl a20 x13.2.1 c21), (I x13.2.2)]) H (i := 0) rfl ti29 rfl rfl rfl rfl rfl (Nat.le_of_ble_eq_true rfl) (by simp [plain]) rfl) (wanted_none _ rfl _) ?_
      rintro σ25 ⟨H, -⟩
      refine w_end ?_
      refine q_then ?_
      refine rg ?_
      refine st (v := (Sl (some ⟨b3, 0, none⟩) s8.1 c4)) (rv_move rfl) ?_
      refine st (v := (I s8.2)) (rv_move rfl) ?_
      have hc26 := H.cells 0 rfl
      refine st (v := (.agg #[(I x13.1), (Sl a20 x13.2.1 c21), (I x13.2.2)])) (rv_load (cs := [(I x13.1), (Sl a20 x13.2.1 c21), (I x13.2.2)]) Try.underlying29 rfl ti29 rfl rfl hc26) ?_
      obtain ⟨r27, hx28, h'⟩ := bind_some h
      clear h
      have h := h'; clear h'
      have hc29 := c_impl_copyItem (ax_0_1 := a20) (cx_0_1 := c21) hx28
      refine st_call (cx_call hc29 (ent_f hc29.fn rfl) hn0 (show Hp S0 σ0 _ ([Ch.ro 0 (Sl a20 x13.2.1 c21) x13.2.1] ++ [Ch.bx n0 b23 0 [(I x13.1), (Sl a20 x13.2.1 c21), (I x13.2.2)] [] [], Ch.ro 0 (Sl a20 x13.2.1 c21) x13.2.1, Ch.own n0 n0 (Sl (some ⟨b3, 0, none⟩) s8.1 c4) s8.1, Ch.ro 0 (Sl alist_0 list_0 clist_0) list_0]) from (H.sel' [1, 0, 1, 2, 3] rfl rfl))) (wanted_none _ rfl _) ?_
      rintro _ σ32 ⟨_, ⟨a30, c31, rfl, rfl⟩, H, -⟩
      replace H : Hp S0 σ0 σ32 [Ch.own n0 n0 (Sl a30 r27.2.1 c31) r27.2.1, Ch.bx n0 b23 0 [(I x13.1), (Sl a20 x13.2.1 c21), (I x13.2.2)] [] [], Ch.ro 0 (Sl a20 x13.2.1 c21) x13.2.1, Ch.own n0 n0 (Sl (some ⟨b3, 0, none⟩) s8.1 c4) s8.1, Ch.ro 0 (Sl alist_0 list_0 clist_0) list_0] := H
      obtain ⟨x33, hx34, h'⟩ := bind_some h
      clear h
      have h := h'; clear h'
      obtain ⟨b36, o37, hi35, -⟩ := (H.own 3 rfl).ix hx34
      refine st (v := (pt b36 o37)) (rv_ix Try.underlying23 ti29 rfl rfl hi35) ?_
      obtain ⟨σ38, hw39, H, -⟩ := H.pub 0 rfl (Nat.le_refl _)
      rw [← hw39]; clear hw39
      refine st_exS (ex_store_own (e' := (r27.1, r27.2.1, r27.2.2)) (vs := [(I r27.1), (Sl a30 r27.2.1 c31), (I r27.2.2)]) (k := 0) H (i := 3) rfl ti29 hx34 hi35 rfl rfl rfl rfl rfl (Nat.le_of_ble_eq_true rfl) (by simp [plain]) (by rintro _ ⟨_, _, rfl, rfl, ⟨_, _, rfl, ⟨_, rfl, hR42⟩, rfl⟩⟩; exact ⟨[(I r27.1)], [(Sl a30 r27.2.1 c31), (I r27.2.2)], rfl, rfl, ⟨[(Sl a30 r27.2.1 c31)], [(I r27.2.2)], rfl, ⟨_, rfl, (H.ro 0 rfl)⟩, rfl⟩⟩)) (wanted_none _ rfl _) ?_
      rintro σ43 ⟨H, -⟩
      have hsl : (Sl (some ⟨b3, 0, none⟩) s8.1 c4) = (Sl (some ⟨b3, 0, none⟩) (s8.1.set s8.2.toNat (r27.1, r27.2.1, r27.2.2)) c4) := sl_len List.length_set.symm
      rw [hsl]; rw [hsl] at H; clear hsl
      refine w_end ?_
      refine q_blk ?_
      refine q_then ?_
      refine rg ?_
      refine st (v := (I (w64 (s8.2 + 1)))) (rv_add (a := s8.2) (b := 1) rfl rfl) ?_
      refine st (v := (I (w64 (s8.2 + 1)))) (rv_move rfl) ?_
      refine w_end ?_
      refine q_then ?_
      obtain rfl := Option.some.inj h
      exact ⟨_, rfl, _, σ43, fr_join ⟨rfl, rfl, rfl, rfl, trivial⟩, rfl, H.sel' [0, 4] rfl rfl, (ht10.trans List.length_set.symm), (List.length_set.trans hn11)⟩
    · replace h := bif_f hb12 h
      refine c_exit ?_
      refine q_then_x ?_
      refine q_then_x ?_
      refine q_blk_hit ?_
      obtain rfl := Option.some.inj h
      obtain rfl := hres _ rfl
      exact ⟨rfl, _, σ9, fr_join ⟨rfl, trivial⟩, rfl, H.sel' [0] rfl rfl, ht10, hn11⟩
  · clear hj
    have h := h'
    clear h' H
    rintro e a w ⟨rfl, ρ, σ44, rfl, rfl, H, ht45, hn46⟩
    refine q_then ?_
    refine c_seq ?_
    refine rg ?_
    refine st (v := (Sl (some ⟨b3, 0, none⟩) o7 c4)) (rv_move rfl) ?_
    refine st (v := (Sl (some ⟨b3, 0, none⟩) o7 c4)) (rv_assign rfl) ?_
    refine w_end ?_
    refine q_then ?_
    refine c_ret ?_
    obtain rfl := Option.some.inj h
    exact fin_ret (v := (Sl (some ⟨b3, 0, none⟩) o7 c4)) (results_ok Try.results37 (res_tmp (v := (Sl (some ⟨b3, 0, none⟩) o7 c4)) rfl res_nil) rfl) ⟨(some ⟨b3, 0, none⟩), c4, rfl, rfl, ht45⟩ (H.sel' [0] rfl rfl)

theorem c_slices_Delete_impl_Item_impl_Item {s_0 : List (Int × (List Int) × Int)} {i_1 : Int} {j_2 : Int} {as_0 : Option Addr} {cs_0 : Nat} {r : (List (Int × (List Int) × Int))} (h : M.slices_Delete_impl_Item_impl_Item s_0 i_1 j_2 = some r) :
    Cal2 Try.prog 43 [(Sl as_0 s_0 cs_0), (I i_1), (I j_2)] [Ch.own 0 0 (Sl as_0 s_0 cs_0) s_0] (fun n0 v L => ∃ (az1 : Option Addr), ∃ (cz2 : Nat), v = (Sl az1 r cz2) ∧ L = [Ch.own 0 0 (Sl az1 r cz2) r]) := by
  refine cal2 (n := 33) Try.func43 rfl rfl rfl rfl ?_
  intro S0 σ0 n0 hn0 H
  unfold M.slices_Delete_impl_Item_impl_Item at h
  refine c_seq ?_
  refine rg ?_
  refine st (v := (.slice none 0 0)) (rv_assign rfl) ?_
  refine w_end ?_
  refine q_then ?_
  refine c_seq ?_
  refine rg ?_
  refine st (v := (Sl as_0 s_0 cs_0)) (rv_move rfl) ?_
  refine st (v := (I i_1)) (rv_move rfl) ?_
  refine st (v := (I j_2)) (rv_move rfl) ?_
  refine st (v := (Sl as_0 s_0 cs_0)) (rv_move rfl) ?_
  refine st (v := (I (s_0.length : Int))) (rv_len Try.underlying23 rfl) ?_
  obtain ⟨o1, hx2, h'⟩ := bind_some h
  clear h
  have h := h'; clear h'
  refine st (v := (.slice (if ((s_0.length : Int)).toNat = (i_1).toNat then as_0 else (as_0).map (·.add ((i_1).toNat * 3))) ((j_2).toNat - (i_1).toNat) (((s_0.length : Int)).toNat - (i_1).toNat))) (rv_slice3 Try.underlying23 ti29 hx2 (H.own 0 rfl).cap rfl rfl rfl rfl) ?_
  refine w_end ?_
  refine q_then ?_
  refine c_seq ?_
  refine c_seq ?_
  refine rg ?_
  refine st (v := (I i_1)) (rv_move rfl) ?_
  refine st (v := (I j_2)) (rv_move rfl) ?_
  refine st (v := (B (i_1 == j_2))) (rv_eql (a := i_1) (b := j_2) rfl rfl) ?_
  refine w_end ?_
  refine q_then ?_
  refine cd_cond (i_1 == j_2) rfl (fun hb3 => ?_) (fun hb3 => ?_)
  · replace h := bif_t hb3 h
    refine c_seq ?_
    refine rg ?_
    refine st (v := (Sl as_0 s_0 cs_0)) (rv_move rfl) ?_
    refine st (v := (Sl as_0 s_0 cs_0)) (rv_assign rfl) ?_
    refine w_end ?_
    refine q_then ?_
    refine c_ret ?_
    refine q_then_r ?_
    obtain rfl := Option.some.inj h
    exact fin_ret (v := (Sl as_0 s_0 cs_0)) (results_ok Try.results43 (res_tmp (v := (Sl as_0 s_0 cs_0)) rfl res_nil) rfl) ⟨as_0, cs_0, rfl, rfl⟩ (H.sel' [0] rfl rfl)
  · replace h := bif_f hb3 h
    refine c_skip ?_
    refine q_then ?_
    refine c_seq ?_
    refine rg ?_
    refine st (v := (Sl as_0 s_0 cs_0)) (rv_move rfl) ?_
    refine st (v := (I (s_0.length : Int))) (rv_len Try.underlying23 rfl) ?_
    refine st (v := (I (s_0.length : Int))) (rv_assign rfl) ?_
    refine w_end ?_
    refine q_then ?_
    refine c_seq ?_
    obtain ⟨xs4, hx5, h'⟩ := bind_some h
    clear h
    have h := h'; clear h'
    obtain ⟨a6, c7, hs8, -⟩ := (H.own 0 rfl).slice hx5
    obtain ⟨xs10, hx11, h'⟩ := bind_some h
    clear h
    have h := h'; clear h'
    obtain ⟨a12, c13, hs14, -⟩ := (H.own 0 rfl).slice hx11
    have Hs := H
    refine rg2 (σ := σ0) (Nm := Unit) 6 [] [[]] [[(0, 0)], [(0, 0)], [(0, 0)], [(0, 0)], [(0, 0)], [(0, 0)]] 0 [fun (_nm : Unit) => fun σm => Hp S0 σ0 σm [Ch.own 0 0 (Sl as_0 s_0 cs_0) s_0] ∧ Md (cov []) σ0 σm] [fun (_nm : Unit) => (Sl as_0 s_0 cs_0), fun (_nm : Unit) => (I i_1), fun (_nm : Unit) => (Sl a6 xs4 c7), fun (_nm : Unit) => (Sl as_0 s_0 cs_0), fun (_nm : Unit) => (I j_2), fun (_nm : Unit) => (Sl a12 xs10 c13)] () (by kernel_rfl) (by kernel_rfl) ?_ ?_ ?_
    · intro σm m0
      exact ⟨H.grow (m0.mono fun _ h => h.elim), m0⟩
    · refine all_cons (obs_v rfl (by
          intro k; intro _nm ρ σm hJ hoff hdep
          have e0 : look 33 ρ 0 = (Sl as_0 s_0 cs_0) := look_off (hoff 0 rfl) rfl
          exact dp_v (v := (Sl as_0 s_0 cs_0)) (wanted_none _ rfl _) (rv_move e0) rfl hJ)) ?_
      refine all_cons (obs_v rfl (by
          intro k; intro _nm ρ σm hJ hoff hdep
          have e1 : look 33 ρ 1 = (I i_1) := look_off (hoff 1 rfl) rfl
          exact dp_v (v := (I i_1)) (wanted_none _ rfl _) (rv_move e1) rfl hJ)) ?_
      refine all_cons (obs_v rfl (by
          intro k; intro _nm ρ σm hJ hoff hdep
          have e20 : look 33 ρ 20 = (Sl as_0 s_0 cs_0) := hdep 0 rfl rfl 20 rfl
          have e21 : look 33 ρ 21 = (I i_1) := hdep 1 rfl rfl 21 rfl
          exact dp_v (v := (Sl a6 xs4 c7)) (wanted_none _ rfl _) (rv_slice_h Try.underlying23 ti29 hs8 e20 e21) rfl hJ)) ?_
      refine all_cons (obs_v rfl (by
          intro k; intro _nm ρ σm hJ hoff hdep
          have e0 : look 33 ρ 0 = (Sl as_0 s_0 cs_0) := look_off (hoff 0 rfl) rfl
          exact dp_v (v := (Sl as_0 s_0 cs_0)) (wanted_none _ rfl _) (rv_move e0) rfl hJ)) ?_
      refine all_cons (obs_v rfl (by
          intro k; intro _nm ρ σm hJ hoff hdep
          have e2 : look 33 ρ 2 = (I j_2) := look_off (hoff 2 rfl) rfl
          exact dp_v (v := (I j_2)) (wanted_none _ rfl _) (rv_move e2) rfl hJ)) ?_
      refine all_cons (obs_v rfl (by
          intro k; intro _nm ρ σm hJ hoff hdep
          have e23 : look 33 ρ 23 = (Sl as_0 s_0 cs_0) := hdep 3 rfl rfl 23 rfl
          have e24 : look 33 ρ 24 = (I j_2) := hdep 4 rfl rfl 24 rfl
          exact dp_v (v := (Sl a12 xs10 c13)) (wanted_none _ rfl _) (rv_slice_l Try.underlying23 ti29 hs14 e23 e24) rfl hJ)) ?_
      exact all_nil
    · intro _nm ρ σ16 hJ hoff hrel
      have e7 : look 33 ρ 7 = (I (s_0.length : Int)) := look_off (hoff 7 rfl) rfl
      have e22 : look 33 ρ 22 = (Sl a6 xs4 c7) := hrel 2 rfl 22 rfl
      have e25 : look 33 ρ 25 = (Sl a12 xs10 c13) := hrel 5 rfl 25 rfl
      obtain ⟨H, -⟩ := (show Hp S0 σ0 σ16 [Ch.own 0 0 (Sl as_0 s_0 cs_0) s_0] ∧ Md (cov []) σ0 σ16 from hJ)
      clear hJ Hs
      rw [fr_lookL (L := [(7, (I (s_0.length : Int))), (22, (Sl a6 xs4 c7)), (25, (Sl a12 xs10 c13))]) ⟨e7, e22, e25, trivial⟩]
      clear hoff hrel e7 e22 e25
      obtain ⟨xs17, hx18, h'⟩ := bind_some h
      clear h
      have h := h'; clear h'
      refine st_ex (ex_appV H (i := 0) rfl Try.underlying23 Try.underlying23 ti29 rfl rfl (by decide) hx5 hs8 ((H.own 0 rfl).view hx11 hs14).1.rd hx18 (Nat.zero_le _) rfl rfl) (wanted_none _ rfl _) ?_
      rintro _ σ22 ⟨a19, c20, rfl, H, -, hf21⟩
      refine st (v := (Sl a19 xs17 c20)) (rv_assign rfl) ?_
      refine w_end ?_
      refine q_then ?_
      refine c_seq ?_
      refine rg ?_
      refine st (v := (Sl a19 xs17 c20)) (rv_move rfl) ?_
      refine st (v := (Sl a19 xs17 c20)) (rv_move rfl) ?_
      refine st (v := (I (xs17.length : Int))) (rv_len Try.underlying23 rfl) ?_
      refine st (v := (I (s_0.length : Int))) (rv_move rfl) ?_
      have hd29 := del_room hx5 hx11 (gthree_some hx2).2.1 hx18 hs8 hf21
      refine st (v := (.slice (if c20 = xs17.length then a19 else (a19).map (·.add (xs17.length * 3))) (s_0.length - xs17.length) (c20 - xs17.length))) (rv_sliceX (m0 := xs17.length) (k0 := s_0.length) Try.underlying23 ti29 hd29.1 hd29.2 rfl rfl rfl) ?_
      refine st_ex0 (ex_clearX (k0 := s_0.length) H (i := 0) rfl Try.underlying23 ti29 rfl rfl (by simp [plain, Value.cells]) hd29.1 hd29.2 rfl) (wanted_none _ rfl _) ?_
      rintro _ σ30 ⟨rfl, H, -⟩
      refine w_end ?_
      refine q_then ?_
      refine c_seq ?_
      refine rg ?_
      refine st (v := (Sl a19 xs17 c20)) (rv_move rfl) ?_
      refine st (v := (Sl a19 xs17 c20)) (rv_assign rfl) ?_
      refine w_end ?_
      refine q_then ?_
      refine c_ret ?_
      obtain rfl := Option.some.inj h
      exact fin_ret (v := (Sl a19 xs17 c20)) (results_ok Try.results43 (res_tmp (v := (Sl a19 xs17 c20)) rfl res_nil) rfl) ⟨a19, c20, rfl, rfl⟩ (H.sel' [0] rfl rfl)

theorem c_impl_DropItem {list_0 : List (Int × (List Int) × Int)} {key_1 : Int} {alist_0 : Option Addr} {clist_0 : Nat} {r : (List (Int × (List Int) × Int)) × Bool} (h : M.impl_DropItem list_0 key_1 = some r) :
    Cal2 Try.prog 23 [(Sl alist_0 list_0 clist_0), (I key_1)] [Ch.ro 0 (Sl alist_0 list_0 clist_0) list_0] (fun n0 v L => ∃ (az1 : Option Addr), ∃ (cz2 : Nat), v = (.tuple #[(Sl az1 r.1 cz2), (B r.2)]) ∧ L = [Ch.own 0 0 (Sl az1 r.1 cz2) r.1]) := by
  refine cal2 (n := 25) Try.func23 rfl rfl rfl rfl ?_
  intro S0 σ0 n0 hn0 H
  unfold M.impl_DropItem at h
  refine c_seq ?_
  refine rg ?_
  refine st (v := (.slice none 0 0)) (rv_assign rfl) ?_
  refine st (v := (B false)) (rv_assign rfl) ?_
  refine w_end ?_
  refine q_then ?_
  refine c_seq ?_
  refine c_seq ?_
  refine rg ?_
  refine st (v := (Sl alist_0 list_0 clist_0)) (rv_move rfl) ?_
  obtain ⟨r1, hx2, h'⟩ := bind_some h
  clear h
  have h := h'; clear h'
  have hc3 := c_impl_ValidStore (alist_0 := alist_0) (clist_0 := clist_0) hx2
  refine st_call (cx_call hc3 (ent_f hc3.fn rfl) hn0 (show Hp S0 σ0 _ ([Ch.ro 0 (Sl alist_0 list_0 clist_0) list_0] ++ [Ch.ro 0 (Sl alist_0 list_0 clist_0) list_0]) from (H.sel' [0, 0] rfl rfl))) (wanted_none _ rfl _) ?_
  rintro _ σ4 ⟨_, ⟨rfl, rfl⟩, H, -⟩
  replace H : Hp S0 σ0 σ4 [Ch.ro 0 (Sl alist_0 list_0 clist_0) list_0] := H
  refine st (v := (B (!r1))) (rv_not rfl) ?_
  refine w_end ?_
  refine q_then ?_
  refine cd_cond (!r1) rfl (fun hb5 => ?_) (fun hb5 => ?_)
  · replace h := bif_t hb5 h
    refine c_seq ?_
    refine rg ?_
    refine st (v := (.slice none 0 0)) (rv_assign rfl) ?_
    refine st (v := (B false)) (rv_assign rfl) ?_
    refine w_end ?_
    refine q_then ?_
    refine c_ret ?_
    refine q_then_r ?_
    replace H := H.nilOwn (Int × (List Int) × Int) 0 0
    obtain rfl := Option.some.inj h
    exact fin_ret (v := (.tuple #[(.slice none 0 0), (B false)])) (results_ok Try.results23 (res_tmp (v := (.slice none 0 0)) rfl (res_tmp (v := (B false)) rfl res_nil)) rfl) ⟨none, 0, rfl, rfl⟩ (H.sel' [0] rfl rfl)
  · replace h := bif_f hb5 h
    refine c_skip ?_
    refine q_then ?_
    refine c_seq ?_
    refine rg ?_
    refine st (v := (Sl alist_0 list_0 clist_0)) (rv_move rfl) ?_
    refine st (v := (I key_1)) (rv_move rfl) ?_
    obtain ⟨r6, hx7, h'⟩ := bind_some h
    clear h
    have h := h'; clear h'
    have hc8 := c_impl_placeOf (alist_0 := alist_0) (clist_0 := clist_0) hx7
    refine st_call (cx_call hc8 (ent_f hc8.fn rfl) hn0 (show Hp S0 σ0 _ ([Ch.ro 0 (Sl alist_0 list_0 clist_0) list_0] ++ [Ch.ro 0 (Sl alist_0 list_0 clist_0) list_0]) from (H.sel' [0, 0] rfl rfl))) (wanted_none _ rfl _) ?_
    rintro _ σ9 ⟨_, ⟨rfl, rfl⟩, H, -⟩
    replace H : Hp S0 σ0 σ9 [Ch.ro 0 (Sl alist_0 list_0 clist_0) list_0] := H
    refine st (v := (.tuple #[(I r6.1), (B r6.2)])) (rv_move rfl) ?_
    refine st (v := (I r6.1)) (rv_extract rfl rfl) ?_
    refine st (v := (B r6.2)) (rv_extract rfl rfl) ?_
    refine st (v := (I r6.1)) (rv_assign rfl) ?_
    refine st (v := (B r6.2)) (rv_assign rfl) ?_
    refine w_end ?_
    refine q_then ?_
    refine c_seq ?_
    refine c_seq ?_
    refine rg ?_
    refine st (v := (B r6.2)) (rv_move rfl) ?_
    refine st (v := (B (!r6.2))) (rv_not rfl) ?_
    refine w_end ?_
    refine q_then ?_
    refine cd_cond (!r6.2) rfl (fun hb10 => ?_) (fun hb10 => ?_)
    · replace h := bif_t hb10 h
      refine c_seq ?_
      refine rg ?_
      refine st (v := (.slice none 0 0)) (rv_assign rfl) ?_
      refine st (v := (B false)) (rv_assign rfl) ?_
      refine w_end ?_
      refine q_then ?_
      refine c_ret ?_
      refine q_then_r ?_
      replace H := H.nilOwn (Int × (List Int) × Int) 0 0
      obtain rfl := Option.some.inj h
      exact fin_ret (v := (.tuple #[(.slice none 0 0), (B false)])) (results_ok Try.results23 (res_tmp (v := (.slice none 0 0)) rfl (res_tmp (v := (B false)) rfl res_nil)) rfl) ⟨none, 0, rfl, rfl⟩ (H.sel' [0] rfl rfl)
    · replace h := bif_f hb10 h
      refine c_skip ?_
      refine q_then ?_
      refine c_seq ?_
      refine rg ?_
      refine st (v := (Sl alist_0 list_0 clist_0)) (rv_move rfl) ?_
      obtain ⟨r11, hx12, h'⟩ := bind_some h
      clear h
      have h := h'; clear h'
      have hc13 := c_impl_copyItems (alist_0 := alist_0) (clist_0 := clist_0) hx12
      refine st_call (cx_call hc13 (ent_f hc13.fn rfl) hn0 (show Hp S0 σ0 _ ([Ch.ro 0 (Sl alist_0 list_0 clist_0) list_0] ++ [Ch.ro 0 (Sl alist_0 list_0 clist_0) list_0]) from (H.sel' [0, 0] rfl rfl))) (wanted_none _ rfl _) ?_
      rintro _ σ17 ⟨_, ⟨a14, c15, rfl, rfl, ht16⟩, H, -⟩
      replace H : Hp S0 σ0 σ17 [Ch.own n0 n0 (Sl a14 r11 c15) r11, Ch.ro 0 (Sl alist_0 list_0 clist_0) list_0] := H
      refine st (v := (I r6.1)) (rv_move rfl) ?_
      refine st (v := (I r6.1)) (rv_move rfl) ?_
      refine st (v := (I (w64 (r6.1 + 1)))) (rv_add (a := r6.1) (b := 1) rfl rfl) ?_
      replace H := H.ownLow 0 0 0 rfl (Nat.zero_le _) (Nat.zero_le _)
      obtain ⟨r18, hx19, h'⟩ := bind_some h
      clear h
      have h := h'; clear h'
      have hc20 := c_slices_Delete_impl_Item_impl_Item (as_0 := a14) (cs_0 := c15) hx19
      refine st_call (cx_call hc20 (ent_f hc20.fn rfl) hn0 (show Hp S0 σ0 _ ([Ch.own 0 0 (Sl a14 r11 c15) r11] ++ [Ch.ro 0 (Sl alist_0 list_0 clist_0) list_0]) from (H.sel' [0, 1] rfl rfl))) (wanted_none _ rfl _) ?_
      rintro _ σ23 ⟨_, ⟨a21, c22, rfl, rfl⟩, H, -⟩
      replace H : Hp S0 σ0 σ23 [Ch.own 0 0 (Sl a21 r18 c22) r18, Ch.ro 0 (Sl alist_0 list_0 clist_0) list_0] := H
      refine st (v := (Sl a21 r18 c22)) (rv_assign rfl) ?_
      refine st (v := (B true)) (rv_assign rfl) ?_
      refine w_end ?_
      refine q_then ?_
      refine c_ret ?_
      obtain rfl := Option.some.inj h
      exact fin_ret (v := (.tuple #[(Sl a21 r18 c22), (B true)])) (results_ok Try.results23 (res_tmp (v := (Sl a21 r18 c22)) rfl (res_tmp (v := (B true)) rfl res_nil)) rfl) ⟨a21, c22, rfl, rfl⟩ (H.sel' [0] rfl rfl)

theorem c_spec_keyAt {list_0 : List (Int × (List Int) × Int)} {key_1 : Int} {alist_0 : Option Addr} {clist_0 : Nat} {r : Int} (h : M.spec_keyAt list_0 key_1 = some r) :
    Cal2 Try.prog 44 [(Sl alist_0 list_0 clist_0), (I key_1)] [Ch.ro 0 (Sl alist_0 list_0 clist_0) list_0] (fun n0 v L => v = (I r) ∧ L = []) := by
  refine cal2 (n := 20) Try.func44 rfl rfl rfl rfl ?_
  intro S0 σ0 n0 hn0 H
  unfold M.spec_keyAt at h
  refine c_seq ?_
  refine rg ?_
  refine st (v := (I 0)) (rv_assign rfl) ?_
  refine w_end ?_
  refine q_then ?_
  refine c_seq ?_
  refine c_seq ?_
  refine rg ?_
  refine st (v := (I 0)) (rv_assign rfl) ?_
  refine w_end ?_
  refine q_then ?_
  obtain ⟨o1, hj, h'⟩ := bind_some h
  clear h
  refine c_cut (fun e a w => (∃ t, o1 = (.inl t) ∧ e = .normal ∧ ∃ (ρ : Nat → Value) (σ : St), a = fr 20 (updL ρ []) ∧ w = σ.w ∧ Hp S0 σ0 σ []) ∨ (∃ t, o1 = (.inr t) ∧ e = .ret ∧ ∃ (ρ : Nat → Value) (σ : St), a = fr 20 (updL ρ [(4, (I t))]) ∧ w = σ.w ∧ Hp S0 σ0 σ [])) ?_ ?_
  · clear h'
    rename _ = some o1 => h
    refine c_blk ?_
    refine wp_loopM _ h (fun s2 a w => ∃ (ρ : Nat → Value) (σ : St), a = fr 20 (updL ρ [(0, (Sl alist_0 list_0 clist_0)), (1, (I key_1)), (5, (I s2))]) ∧ w = σ.w ∧ Hp S0 σ0 σ [Ch.ro 0 (Sl alist_0 list_0 clist_0) list_0]) ⟨_, σ0, fr_join ⟨rfl, rfl, rfl, trivial⟩, rfl, H.sel' [0] rfl rfl⟩ ?_
    clear h H
    rintro s2 a w o ⟨ρ, σ3, rfl, rfl, H⟩ h hres
    refine c_seq ?_
    refine c_seq ?_
    refine rg ?_
    refine st (v := (I s2)) (rv_move rfl) ?_
    refine st (v := (Sl alist_0 list_0 clist_0)) (rv_move rfl) ?_
    refine st (v := (I (list_0.length : Int))) (rv_len Try.underlying23 rfl) ?_
    refine st (v := (B (decide (s2 < (list_0.length : Int))))) (rv_lss (a := s2) (b := (list_0.length : Int)) rfl rfl) ?_
    refine w_end ?_
    refine q_then ?_
    refine cd_cond (decide (s2 < (list_0.length : Int))) rfl (fun hb4 => ?_) (fun hb4 => ?_)
    · replace h := bif_t hb4 h
      refine c_skip ?_
      refine q_then ?_
      refine c_seq ?_
      refine c_blk ?_
      refine c_seq ?_
      refine rg ?_
      refine st (v := (Sl alist_0 list_0 clist_0)) (rv_move rfl) ?_
      refine st (v := (I s2)) (rv_move rfl) ?_
      obtain ⟨x5, hx6, h'⟩ := bind_some h
      clear h
      have h := h'; clear h'
      obtain ⟨b8, o9, hi7, -⟩ := (H.ro 0 rfl).ix hx6
      refine st (v := (pt b8 o9)) (rv_ix Try.underlying23 ti29 rfl rfl hi7) ?_
      refine st (v := (pt b8 (o9 + 0))) (rv_fieldAddr (off := 0) (ft := 3) Try.underlying29 rfl ti3 rfl rfl) ?_
      have hc10 := ((H.ro 0 rfl).at hx6 hi7).fst.int
      refine st (v := (I x5.1)) (rv_load1 Try.underlying3 rfl rfl hc10) ?_
      refine st (v := (I key_1)) (rv_move rfl) ?_
      refine st (v := (B (x5.1 == key_1))) (rv_eql (a := x5.1) (b := key_1) rfl rfl) ?_
      refine w_end ?_
      refine q_then ?_
      refine cd_cond (x5.1 == key_1) rfl (fun hb11 => ?_) (fun hb11 => ?_)
      · replace h := bif_t hb11 h
        refine c_seq ?_
        refine rg ?_
        refine st (v := (I s2)) (rv_move rfl) ?_
        refine st (v := (I s2)) (rv_assign rfl) ?_
        refine w_end ?_
        refine q_then ?_
        refine c_ret ?_
        refine q_blk_r ?_
        refine q_then_r ?_
        refine q_then_r ?_
        refine q_blk_r ?_
        obtain rfl := Option.some.inj h
        obtain rfl := hres _ rfl
        exact .inr (⟨_, rfl, rfl, _, σ3, fr_join ⟨rfl, trivial⟩, rfl, H.sel' [] rfl rfl⟩)
      · replace h := bif_f hb11 h
        refine c_skip ?_
        refine q_blk ?_
        refine q_then ?_
        refine rg ?_
        refine st (v := (I s2)) (rv_move rfl) ?_
        refine st (v := (I (w64 (s2 + 1)))) (rv_add (a := s2) (b := 1) rfl rfl) ?_
        refine st (v := (I (w64 (s2 + 1)))) (rv_assign rfl) ?_
        refine w_end ?_
        refine q_then ?_
        obtain rfl := Option.some.inj h
        exact ⟨_, rfl, _, σ3, fr_join ⟨rfl, rfl, rfl, trivial⟩, rfl, H.sel' [0] rfl rfl⟩
    · replace h := bif_f hb4 h
      refine c_exit ?_
      refine q_then_x ?_
      refine q_then_x ?_
      refine q_blk_hit ?_
      obtain rfl := Option.some.inj h
      obtain rfl := hres _ rfl
      exact .inl ⟨_, rfl, rfl, _, σ3, fr_join trivial, rfl, H.sel' [] rfl rfl⟩
  · clear hj
    have h := h'
    clear h' H
    rintro e a w (⟨t12, rfl, rfl, ρ, σ13, rfl, rfl, H⟩ | ⟨t14, rfl, rfl, ρ, σ15, rfl, rfl, H⟩)
    · replace h := selim_l h
      refine q_then ?_
      refine c_seq ?_
      refine rg ?_
      refine st (v := (I (-1))) (rv_assign rfl) ?_
      refine w_end ?_
      refine q_then ?_
      refine c_ret ?_
      obtain rfl := Option.some.inj h
      exact fin_ret (v := (I (-1))) (results_ok Try.results44 (res_tmp (v := (I (-1))) rfl res_nil) rfl) ⟨rfl, rfl⟩ (H.sel' [] rfl rfl)
    · replace h := selim_r h
      refine q_then_r ?_
      obtain rfl := Option.some.inj h
      exact fin_ret (v := (I t14)) (results_ok Try.results44 (res_tmp (v := (I t14)) rfl res_nil) rfl) ⟨rfl, rfl⟩ (H.sel' [] rfl rfl)

theorem c_spec_DropItem {list_0 : List (Int × (List Int) × Int)} {key_1 : Int} {alist_0 : Option Addr} {clist_0 : Nat} {r : (List (Int × (List Int) × Int)) × Bool} (h : M.spec_DropItem list_0 key_1 = some r) :
    Cal2 Try.prog 24 [(Sl alist_0 list_0 clist_0), (I key_1)] [Ch.ro 0 (Sl alist_0 list_0 clist_0) list_0] (fun n0 v L => ∃ (az1 : Option Addr), ∃ (cz2 : Nat), v = (.tuple #[(Sl az1 r.1 cz2), (B r.2)]) ∧ L = [Ch.own n0 n0 (Sl az1 r.1 cz2) r.1]) := by
  refine cal2 (n := 40) Try.func24 rfl rfl rfl rfl ?_
  intro S0 σ0 n0 hn0 H
  unfold M.spec_DropItem at h
  refine c_seq ?_
  refine rg ?_
  refine st (v := (.slice none 0 0)) (rv_assign rfl) ?_
  refine st (v := (B false)) (rv_assign rfl) ?_
  refine w_end ?_
  refine q_then ?_
  refine c_seq ?_
  refine c_seq ?_
  obtain ⟨o1, hj, h'⟩ := bind_some h
  clear h
  refine c_cut (fun e a w => e = .normal ∧ ∃ (ρ : Nat → Value) (σ : St), a = fr 40 (updL ρ [(0, (Sl alist_0 list_0 clist_0)), (1, (I key_1)), (16, (B o1))]) ∧ w = σ.w ∧ Hp S0 σ0 σ [Ch.ro 0 (Sl alist_0 list_0 clist_0) list_0]) ?_ ?_
  · clear h'
    rename _ = some o1 => h
    refine rg ?_
    refine st (v := (Sl alist_0 list_0 clist_0)) (rv_move rfl) ?_
    obtain ⟨r2, hx3, h'⟩ := bind_some h
    clear h
    have h := h'; clear h'
    have hc4 := c_spec_validStore (alist_0 := alist_0) (clist_0 := clist_0) hx3
    refine st_call (cx_call hc4 (ent_f hc4.fn rfl) hn0 (show Hp S0 σ0 _ ([Ch.ro 0 (Sl alist_0 list_0 clist_0) list_0] ++ [Ch.ro 0 (Sl alist_0 list_0 clist_0) list_0]) from (H.sel' [0, 0] rfl rfl))) (wanted_none _ rfl _) ?_
    rintro _ σ5 ⟨_, ⟨rfl, rfl⟩, H, -⟩
    replace H : Hp S0 σ0 σ5 [Ch.ro 0 (Sl alist_0 list_0 clist_0) list_0] := H
    refine st (v := (B (!r2))) (rv_not rfl) ?_
    refine st (v := (B (!r2))) (rv_move rfl) ?_
    rcases Bool.eq_false_or_eq_true (!r2) with hb6 | hb6
    · replace h := bif_t hb6 h
      refine st_skip (congrArg some hb6) ?_
      refine st_skip (congrArg some hb6) ?_
      refine st_skip (congrArg some hb6) ?_
      refine st_skip (congrArg some hb6) ?_
      refine st (v := (B true)) (rv_pick_t (congrArg B hb6) rfl) ?_
      refine w_end ?_
      obtain rfl := Option.some.inj h
      exact ⟨rfl, _, σ5, fr_join ⟨rfl, rfl, rfl, trivial⟩, rfl, H.sel' [0] rfl rfl⟩
    · replace h := bif_f hb6 h
      refine st_g (v := (Sl alist_0 list_0 clist_0)) (congrArg some hb6) (rv_move rfl) ?_
      refine st_g (v := (I key_1)) (congrArg some hb6) (rv_move rfl) ?_
      obtain ⟨r7, hx8, h'⟩ := bind_some h
      clear h
      have h := h'; clear h'
      have hc9 := c_spec_keyAt (alist_0 := alist_0) (clist_0 := clist_0) hx8
      refine st_call (cx_call hc9 (ent_f hc9.fn rfl) hn0 (show Hp S0 σ0 _ ([Ch.ro 0 (Sl alist_0 list_0 clist_0) list_0] ++ [Ch.ro 0 (Sl alist_0 list_0 clist_0) list_0]) from (H.sel' [0, 0] rfl rfl))) (wanted_yes rfl (by exact (congrArg some hb6))) ?_
      rintro _ σ10 ⟨_, ⟨rfl, rfl⟩, H, -⟩
      replace H : Hp S0 σ0 σ10 [Ch.ro 0 (Sl alist_0 list_0 clist_0) list_0] := H
      refine st_g (v := (B (decide (r7 < 0)))) (congrArg some hb6) (rv_lss (a := r7) (b := 0) rfl rfl) ?_
      refine st (v := (B (decide (r7 < 0)))) (rv_pick_f (congrArg B hb6) rfl) ?_
      refine w_end ?_
      obtain rfl := Option.some.inj h
      exact ⟨rfl, _, σ10, fr_join ⟨rfl, rfl, rfl, trivial⟩, rfl, H.sel' [0] rfl rfl⟩
  · clear hj
    have h := h'
    clear h' H
    rintro e a w ⟨rfl, ρ, σ11, rfl, rfl, H⟩
    refine q_then ?_
    refine cd_cond o1 rfl (fun hb12 => ?_) (fun hb12 => ?_)
    · replace h := bif_t hb12 h
      refine c_seq ?_
      refine rg ?_
      refine st (v := (.slice none 0 0)) (rv_assign rfl) ?_
      refine st (v := (B false)) (rv_assign rfl) ?_
      refine w_end ?_
      refine q_then ?_
      refine c_ret ?_
      refine q_then_r ?_
      replace H := H.nilOwn (Int × (List Int) × Int) n0 n0
      obtain rfl := Option.some.inj h
      exact fin_ret (v := (.tuple #[(.slice none 0 0), (B false)])) (results_ok Try.results24 (res_tmp (v := (.slice none 0 0)) rfl (res_tmp (v := (B false)) rfl res_nil)) rfl) ⟨none, 0, rfl, rfl⟩ (H.sel' [0] rfl rfl)
    · replace h := bif_f hb12 h
      refine c_skip ?_
      refine q_then ?_
      refine c_seq ?_
      refine rg ?_
      refine st_ex (ex_buildSlice (el := n0) (xs := ([] : List (Int × (List Int) × Int))) (ps := []) (cs := []) H hn0 Try.underlying23 ti29 rfl rfl (by kernel_rfl) (.nil) rfl) (wanted_none _ rfl _) ?_
      rintro _ σ14 ⟨b13, rfl, H, -⟩
      refine st (v := (Sl (some ⟨b13, 0, none⟩) ([] : List (Int × (List Int) × Int)) 0)) (rv_assign rfl) ?_
      refine w_end ?_
      refine q_then ?_
      refine c_seq ?_
      refine c_seq ?_
      refine rg ?_
      refine st (v := (I 0)) (rv_assign rfl) ?_
      refine w_end ?_
      refine q_then ?_
      obtain ⟨o15, hj, h'⟩ := bind_some h
      clear h
      refine c_cut (fun e a w => e = .normal ∧ ∃ (ρ : Nat → Value) (σ : St) (aj1 : Option Addr) (cj2 : Nat), a = fr 40 (updL ρ [(6, (Sl aj1 o15 cj2))]) ∧ w = σ.w ∧ Hp S0 σ0 σ [Ch.own n0 n0 (Sl aj1 o15 cj2) o15]) ?_ ?_
      · clear h'
        rename _ = some o15 => h
        refine c_blk ?_
        refine wp_loopM _ h (fun s16 a w => ∃ (ρ : Nat → Value) (σ : St) (aj1 : Option Addr) (cj2 : Nat), a = fr 40 (updL ρ [(0, (Sl alist_0 list_0 clist_0)), (1, (I key_1)), (6, (Sl aj1 s16.1 cj2)), (7, (I s16.2))]) ∧ w = σ.w ∧ Hp S0 σ0 σ [Ch.ro 0 (Sl alist_0 list_0 clist_0) list_0, Ch.own n0 n0 (Sl aj1 s16.1 cj2) s16.1]) ⟨_, σ14, (some ⟨b13, 0, none⟩), 0, fr_join ⟨rfl, rfl, rfl, rfl, trivial⟩, rfl, H.sel' [1, 0] rfl rfl⟩ ?_
        clear h H
        rintro s16 a w o ⟨ρ, σ17, a18, c19, rfl, rfl, H⟩ h hres
        refine c_seq ?_
        refine c_seq ?_
        refine rg ?_
        refine st (v := (I s16.2)) (rv_move rfl) ?_
        refine st (v := (Sl alist_0 list_0 clist_0)) (rv_move rfl) ?_
        refine st (v := (I (list_0.length : Int))) (rv_len Try.underlying23 rfl) ?_
        refine st (v := (B (decide (s16.2 < (list_0.length : Int))))) (rv_lss (a := s16.2) (b := (list_0.length : Int)) rfl rfl) ?_
        refine w_end ?_
        refine q_then ?_
        refine cd_cond (decide (s16.2 < (list_0.length : Int))) rfl (fun hb20 => ?_) (fun hb20 => ?_)
        · replace h := bif_t hb20 h
          refine c_skip ?_
          refine q_then ?_
          refine c_seq ?_
          obtain ⟨o21, hj, h'⟩ := bind_some h
          clear h
          refine c_cut (fun e a w => e = .normal ∧ ∃ (ρ : Nat → Value) (σ : St) (aj1 : Option Addr) (cj2 : Nat), a = fr 40 (updL ρ [(0, (Sl alist_0 list_0 clist_0)), (1, (I key_1)), (6, (Sl aj1 o21 cj2)), (7, (I s16.2))]) ∧ w = σ.w ∧ Hp S0 σ0 σ [Ch.ro 0 (Sl alist_0 list_0 clist_0) list_0, Ch.own n0 n0 (Sl aj1 o21 cj2) o21]) ?_ ?_
          · clear h'
            rename _ = some o21 => h
            refine c_blk ?_
            refine c_seq ?_
            refine rg ?_
            refine st (v := (Sl alist_0 list_0 clist_0)) (rv_move rfl) ?_
            refine st (v := (I s16.2)) (rv_move rfl) ?_
            obtain ⟨x22, hx23, h'⟩ := bind_some h
            clear h
            have h := h'; clear h'
            obtain ⟨b25, o26, hi24, -⟩ := (H.ro 0 rfl).ix hx23
            refine st (v := (pt b25 o26)) (rv_ix Try.underlying23 ti29 rfl rfl hi24) ?_
            refine st (v := (pt b25 (o26 + 0))) (rv_fieldAddr (off := 0) (ft := 3) Try.underlying29 rfl ti3 rfl rfl) ?_
            have hc27 := ((H.ro 0 rfl).at hx23 hi24).fst.int
            refine st (v := (I x22.1)) (rv_load1 Try.underlying3 rfl rfl hc27) ?_
            refine st (v := (I key_1)) (rv_move rfl) ?_
            refine st (v := (B (x22.1 != key_1))) (rv_neq (a := x22.1) (b := key_1) rfl rfl) ?_
            refine w_end ?_
            refine q_then ?_
            refine cd_cond (x22.1 != key_1) rfl (fun hb28 => ?_) (fun hb28 => ?_)
            · replace h := bif_t hb28 h
              refine rg ?_
              refine st (v := (Sl a18 s16.1 c19)) (rv_move rfl) ?_
              refine st (v := (Sl alist_0 list_0 clist_0)) (rv_move rfl) ?_
              refine st (v := (I s16.2)) (rv_move rfl) ?_
              obtain ⟨x29, hx30, h'⟩ := bind_some h
              clear h
              have h := h'; clear h'
              obtain ⟨b32, o33, hi31, -⟩ := (H.ro 0 rfl).ix hx30
              refine st (v := (pt b32 o33)) (rv_ix Try.underlying23 ti29 rfl rfl hi31) ?_
              obtain ⟨_, ⟨_, _, rfl, rfl, ⟨_, _, rfl, ⟨_, rfl, hR38⟩, rfl⟩⟩, hl34, hc35⟩ := ((H.ro 0 rfl).at hx30 hi31).cells
              obtain ⟨a36, c37, rfl⟩ := hR38.isSl
              replace H := H.add (d := Ch.ro 0 (Sl a36 x29.2.1 c37) x29.2.1) hR38 (fun _ h => h)
              clear hR38
              refine st (v := (.agg #[(I x29.1), (Sl a36 x29.2.1 c37), (I x29.2.2)])) (rv_load Try.underlying29 rfl ti29 rfl hl34 hc35) ?_
              obtain ⟨r39, hx40, h'⟩ := bind_some h
              clear h
              have h := h'; clear h'
              have hc41 := c_spec_copyItem (ax_0_1 := a36) (cx_0_1 := c37) hx40
              refine st_call (cx_call hc41 (ent_f hc41.fn rfl) hn0 (show Hp S0 σ0 _ ([Ch.ro 0 (Sl a36 x29.2.1 c37) x29.2.1] ++ [Ch.ro 0 (Sl a36 x29.2.1 c37) x29.2.1, Ch.ro 0 (Sl alist_0 list_0 clist_0) list_0, Ch.own n0 n0 (Sl a18 s16.1 c19) s16.1]) from (H.sel' [0, 0, 1, 2] rfl rfl))) (wanted_none _ rfl _) ?_
              rintro _ σ44 ⟨_, ⟨a42, c43, rfl, rfl⟩, H, -⟩
              replace H : Hp S0 σ0 σ44 [Ch.own n0 n0 (Sl a42 r39.2.1 c43) r39.2.1, Ch.ro 0 (Sl a36 x29.2.1 c37) x29.2.1, Ch.ro 0 (Sl alist_0 list_0 clist_0) list_0, Ch.own n0 n0 (Sl a18 s16.1 c19) s16.1] := H
              obtain ⟨σ45, hw46, H, -⟩ := H.pub 0 rfl (Nat.le_refl _)
              rw [← hw46]; clear hw46
              refine st_ex (ex_buildSlice (el := n0) (xs := ([(r39.1, r39.2.1, r39.2.2)] : List (Int × (List Int) × Int))) (ps := [(0, (.agg #[(I r39.1), (Sl a42 r39.2.1 c43), (I r39.2.2)]))]) (cs := [(I r39.1), (Sl a42 r39.2.1 c43), (I r39.2.2)]) H hn0 Try.underlying23 ti29 rfl rfl (by kernel_rfl) (.cons (c := [(I r39.1), (Sl a42 r39.2.1 c43), (I r39.2.2)]) ⟨[(I r39.1)], [(Sl a42 r39.2.1 c43), (I r39.2.2)], rfl, rfl, ⟨[(Sl a42 r39.2.1 c43)], [(I r39.2.2)], rfl, ⟨_, rfl, (H.ro 0 rfl)⟩, rfl⟩⟩ (.nil)) rfl) (wanted_none _ rfl _) ?_
              rintro _ σ48 ⟨b47, rfl, H, -⟩
              obtain ⟨xs49, hx50, h'⟩ := bind_some h
              clear h
              have h := h'; clear h'
              refine st_ex (ex_append H (i := 4) rfl Try.underlying23 Try.underlying23 ti29 rfl rfl (by decide) (H.own 0 rfl).rd hx50 hn0 rfl rfl) (wanted_none _ rfl _) ?_
              rintro _ σ53 ⟨a51, c52, rfl, H, -⟩
              refine st (v := (Sl a51 xs49 c52)) (rv_assign rfl) ?_
              refine w_end ?_
              refine q_blk ?_
              obtain rfl := Option.some.inj h
              exact ⟨rfl, _, σ53, a51, c52, fr_join ⟨rfl, rfl, rfl, rfl, trivial⟩, rfl, H.sel' [4, 0] rfl rfl⟩
            · replace h := bif_f hb28 h
              refine c_skip ?_
              refine q_blk ?_
              obtain rfl := Option.some.inj h
              exact ⟨rfl, _, σ17, a18, c19, fr_join ⟨rfl, rfl, rfl, rfl, trivial⟩, rfl, H.sel' [0, 1] rfl rfl⟩
          · clear hj
            have h := h'
            clear h' H
            rintro e a w ⟨rfl, ρ, σ54, a55, c56, rfl, rfl, H⟩
            refine q_then ?_
            refine rg ?_
            refine st (v := (I s16.2)) (rv_move rfl) ?_
            refine st (v := (I (w64 (s16.2 + 1)))) (rv_add (a := s16.2) (b := 1) rfl rfl) ?_
            refine st (v := (I (w64 (s16.2 + 1)))) (rv_assign rfl) ?_
            refine w_end ?_
            refine q_then ?_
            obtain rfl := Option.some.inj h
            exact ⟨_, rfl, _, σ54, a55, c56, fr_join ⟨rfl, rfl, rfl, rfl, trivial⟩, rfl, H.sel' [0, 1] rfl rfl⟩
        · replace h := bif_f hb20 h
          refine c_exit ?_
          refine q_then_x ?_
          refine q_then_x ?_
          refine q_blk_hit ?_
          obtain rfl := Option.some.inj h
          obtain rfl := hres _ rfl
          exact ⟨rfl, _, σ17, a18, c19, fr_join ⟨rfl, trivial⟩, rfl, H.sel' [1] rfl rfl⟩
      · clear hj
        have h := h'
        clear h' H
        rintro e a w ⟨rfl, ρ, σ57, a58, c59, rfl, rfl, H⟩
        refine q_then ?_
        refine c_seq ?_
        refine rg ?_
        refine st (v := (Sl a58 o15 c59)) (rv_move rfl) ?_
        refine st (v := (Sl a58 o15 c59)) (rv_assign rfl) ?_
        refine st (v := (B true)) (rv_assign rfl) ?_
        refine w_end ?_
        refine q_then ?_
        refine c_ret ?_
        obtain rfl := Option.some.inj h
        exact fin_ret (v := (.tuple #[(Sl a58 o15 c59), (B true)])) (results_ok Try.results24 (res_tmp (v := (Sl a58 o15 c59)) rfl (res_tmp (v := (B true)) rfl res_nil)) rfl) ⟨a58, c59, rfl, rfl⟩ (H.sel' [0] rfl rfl)

theorem c_laws_FnDropItemOrder {code_0 : List UInt8} {acode_0 : Option Addr} {ccode_0 : Nat} {r : Bool} (h : M.laws_FnDropItemOrder code_0 = some r) :
    Cal2 Try.prog 11 [(Sl acode_0 code_0 ccode_0)] [Ch.ro 0 (Sl acode_0 code_0 ccode_0) code_0] (fun n0 v L => v = (B r) ∧ L = []) := by
  refine cal2 (n := 101) Try.func11 rfl rfl rfl rfl ?_
  intro S0 σ0 n0 hn0 H
  unfold M.laws_FnDropItemOrder at h
  refine c_seq ?_
  refine rg ?_
  refine st (v := (B false)) (rv_assign rfl) ?_
  refine w_end ?_
  refine q_then ?_
  refine c_seq ?_
  refine c_seq ?_
  refine rg ?_
  refine st (v := (Sl acode_0 code_0 ccode_0)) (rv_move rfl) ?_
  refine st (v := (I (code_0.length : Int))) (rv_len Try.underlying22 rfl) ?_
  refine st (v := (B (decide (1048576 < (code_0.length : Int))))) (rv_gtr (a := (code_0.length : Int)) (b := 1048576) rfl rfl) ?_
  refine w_end ?_
  refine q_then ?_
  refine cd_cond (decide (1048576 < (code_0.length : Int))) rfl (fun hb1 => ?_) (fun hb1 => ?_)
  · replace h := bif_t hb1 h
    refine c_seq ?_
    refine rg ?_
    refine st (v := (B true)) (rv_assign rfl) ?_
    refine w_end ?_
    refine q_then ?_
    refine c_ret ?_
    refine q_then_r ?_
    obtain rfl := Option.some.inj h
    exact fin_ret (v := (B true)) (results_ok Try.results11 (res_tmp (v := (B true)) rfl res_nil) rfl) ⟨rfl, rfl⟩ (H.sel' [] rfl rfl)
  · replace h := bif_f hb1 h
    refine c_skip ?_
    refine q_then ?_
    refine c_seq ?_
    refine rg ?_
    refine st (v := (Sl acode_0 code_0 ccode_0)) (rv_move rfl) ?_
    obtain ⟨r2, hx3, h'⟩ := bind_some h
    clear h
    have h := h'; clear h'
    have hc4 := c_spec_DrawDropItem (acode_0 := acode_0) (ccode_0 := ccode_0) hx3
    refine st_call (cx_call hc4 (ent_f hc4.fn rfl) hn0 (show Hp S0 σ0 _ ([Ch.ro 0 (Sl acode_0 code_0 ccode_0) code_0] ++ [Ch.ro 0 (Sl acode_0 code_0 ccode_0) code_0]) from (H.sel' [0, 0] rfl rfl))) (wanted_none _ rfl _) ?_
    rintro _ σ7 ⟨_, ⟨a5, c6, rfl, rfl⟩, H, -⟩
    replace H : Hp S0 σ0 σ7 [Ch.ro n0 (Sl a5 r2.1 c6) r2.1, Ch.ro 0 (Sl acode_0 code_0 ccode_0) code_0] := H
    refine st (v := (.tuple #[(Sl a5 r2.1 c6), (I r2.2)])) (rv_move rfl) ?_
    refine st (v := (Sl a5 r2.1 c6)) (rv_extract rfl rfl) ?_
    refine st (v := (I r2.2)) (rv_extract rfl rfl) ?_
    refine st (v := (Sl a5 r2.1 c6)) (rv_assign rfl) ?_
    refine st (v := (I r2.2)) (rv_assign rfl) ?_
    refine w_end ?_
    refine q_then ?_
    refine c_seq ?_
    refine rg ?_
    refine st (v := (Sl a5 r2.1 c6)) (rv_move rfl) ?_
    refine st (v := (I r2.2)) (rv_move rfl) ?_
    replace H := H.roLow 0 0 rfl (Nat.zero_le _)
    obtain ⟨r8, hx9, h'⟩ := bind_some h
    clear h
    have h := h'; clear h'
    have hc10 := c_impl_DropItem (alist_0 := a5) (clist_0 := c6) hx9
    refine st_call (cx_call hc10 (ent_f hc10.fn rfl) hn0 (show Hp S0 σ0 _ ([Ch.ro 0 (Sl a5 r2.1 c6) r2.1] ++ [Ch.ro 0 (Sl a5 r2.1 c6) r2.1, Ch.ro n0 (Sl a5 r2.1 c6) r2.1, Ch.ro 0 (Sl acode_0 code_0 ccode_0) code_0]) from (H.sel' [0, 0, 1, 2] rfl rfl))) (wanted_none _ rfl _) ?_
    rintro _ σ13 ⟨_, ⟨a11, c12, rfl, rfl⟩, H, -⟩
    replace H : Hp S0 σ0 σ13 [Ch.own 0 0 (Sl a11 r8.1 c12) r8.1, Ch.ro 0 (Sl a5 r2.1 c6) r2.1, Ch.ro n0 (Sl a5 r2.1 c6) r2.1, Ch.ro 0 (Sl acode_0 code_0 ccode_0) code_0] := H
    refine st (v := (.tuple #[(Sl a11 r8.1 c12), (B r8.2)])) (rv_move rfl) ?_
    refine st (v := (Sl a11 r8.1 c12)) (rv_extract rfl rfl) ?_
    refine st (v := (B r8.2)) (rv_extract rfl rfl) ?_
    refine st (v := (Sl a11 r8.1 c12)) (rv_assign rfl) ?_
    refine st (v := (B r8.2)) (rv_assign rfl) ?_
    refine w_end ?_
    refine q_then ?_
    refine c_seq ?_
    refine rg ?_
    refine st (v := (Sl a5 r2.1 c6)) (rv_move rfl) ?_
    refine st (v := (I r2.2)) (rv_move rfl) ?_
    replace H := H.roLow 2 0 rfl (Nat.zero_le _)
    obtain ⟨r14, hx15, h'⟩ := bind_some h
    clear h
    have h := h'; clear h'
    have hc16 := c_spec_DropItem (alist_0 := a5) (clist_0 := c6) hx15
    refine st_call (cx_call hc16 (ent_f hc16.fn rfl) hn0 (show Hp S0 σ0 _ ([Ch.ro 0 (Sl a5 r2.1 c6) r2.1] ++ [Ch.ro 0 (Sl a5 r2.1 c6) r2.1, Ch.own 0 0 (Sl a11 r8.1 c12) r8.1, Ch.ro 0 (Sl a5 r2.1 c6) r2.1, Ch.ro n0 (Sl a5 r2.1 c6) r2.1, Ch.ro 0 (Sl acode_0 code_0 ccode_0) code_0]) from (H.sel' [0, 0, 1, 2, 3, 4] rfl rfl))) (wanted_none _ rfl _) ?_
    rintro _ σ19 ⟨_, ⟨a17, c18, rfl, rfl⟩, H, -⟩
    replace H : Hp S0 σ0 σ19 [Ch.own n0 n0 (Sl a17 r14.1 c18) r14.1, Ch.ro 0 (Sl a5 r2.1 c6) r2.1, Ch.own 0 0 (Sl a11 r8.1 c12) r8.1, Ch.ro 0 (Sl a5 r2.1 c6) r2.1, Ch.ro n0 (Sl a5 r2.1 c6) r2.1, Ch.ro 0 (Sl acode_0 code_0 ccode_0) code_0] := H
    refine st (v := (.tuple #[(Sl a17 r14.1 c18), (B r14.2)])) (rv_move rfl) ?_
    refine st (v := (Sl a17 r14.1 c18)) (rv_extract rfl rfl) ?_
    refine st (v := (B r14.2)) (rv_extract rfl rfl) ?_
    refine st (v := (Sl a17 r14.1 c18)) (rv_assign rfl) ?_
    refine st (v := (B r14.2)) (rv_assign rfl) ?_
    refine w_end ?_
    refine q_then ?_
    refine c_seq ?_
    refine c_seq ?_
    obtain ⟨o20, hj, h'⟩ := bind_some h
    clear h
    refine c_cut (fun e a w => e = .normal ∧ ∃ (ρ : Nat → Value) (σ : St), a = fr 101 (updL ρ [(0, (Sl acode_0 code_0 ccode_0)), (3, (Sl a5 r2.1 c6)), (4, (I r2.2)), (5, (Sl a11 r8.1 c12)), (6, (B r8.2)), (7, (Sl a17 r14.1 c18)), (8, (B r14.2)), (53, (B o20))]) ∧ w = σ.w ∧ Hp S0 σ0 σ [Ch.ro 0 (Sl acode_0 code_0 ccode_0) code_0, Ch.ro n0 (Sl a5 r2.1 c6) r2.1, Ch.own 0 0 (Sl a11 r8.1 c12) r8.1, Ch.own n0 n0 (Sl a17 r14.1 c18) r14.1]) ?_ ?_
    · clear h'
      rename _ = some o20 => h
      refine rg ?_
      refine st (v := (Sl a11 r8.1 c12)) (rv_move rfl) ?_
      refine st (v := (Sl a17 r14.1 c18)) (rv_move rfl) ?_
      obtain ⟨r21, hx22, h'⟩ := bind_some h
      clear h
      have h := h'; clear h'
      have hc23 := c_laws_equalItems (aa_0 := a11) (ca_0 := c12) (ab_1 := a17) (cb_1 := c18) hx22
      have hle := Nat.le_trans hn0 H.size
      refine st_call (cx_lend (Loan.lend (Loan.lend Loan.nil)) hc23 (ent_f hc23.fn rfl) (show Hp S0 σ0 _ ([Ch.own 0 0 (Sl a11 r8.1 c12) r8.1, Ch.own n0 n0 (Sl a17 r14.1 c18) r14.1] ++ ([] ++ [Ch.ro 0 (Sl a5 r2.1 c6) r2.1, Ch.ro 0 (Sl a5 r2.1 c6) r2.1, Ch.ro n0 (Sl a5 r2.1 c6) r2.1, Ch.ro 0 (Sl acode_0 code_0 ccode_0) code_0])) from (H.sel' [2, 0, 1, 3, 4, 5] rfl rfl)) (by rintro _ _ _ ⟨rfl, rfl⟩; exact trivial)) (wanted_none _ rfl _) ?_
      rintro _ σ24 ⟨_, ⟨rfl, rfl⟩, H, -, -⟩
      replace H : Hp S0 σ0 σ24 [Ch.own 0 0 (Sl a11 r8.1 c12) r8.1, Ch.own n0 n0 (Sl a17 r14.1 c18) r14.1, Ch.ro 0 (Sl a5 r2.1 c6) r2.1, Ch.ro 0 (Sl a5 r2.1 c6) r2.1, Ch.ro n0 (Sl a5 r2.1 c6) r2.1, Ch.ro 0 (Sl acode_0 code_0 ccode_0) code_0] := H
      clear hle
      replace H : Hp S0 σ0 σ24 [Ch.own 0 0 (Sl a11 r8.1 c12) r8.1, Ch.own n0 n0 (Sl a17 r14.1 c18) r14.1, Ch.ro 0 (Sl a5 r2.1 c6) r2.1, Ch.ro 0 (Sl a5 r2.1 c6) r2.1, Ch.ro n0 (Sl a5 r2.1 c6) r2.1, Ch.ro 0 (Sl acode_0 code_0 ccode_0) code_0] := H
      refine st (v := (B (!r21))) (rv_not rfl) ?_
      refine st (v := (B (!r21))) (rv_move rfl) ?_
      rcases Bool.eq_false_or_eq_true (!r21) with hb25 | hb25
      · replace h := bif_t hb25 h
        refine st_skip (congrArg some hb25) ?_
        refine st_skip (congrArg some hb25) ?_
        refine st_skip (congrArg some hb25) ?_
        refine st (v := (B true)) (rv_pick_t (congrArg B hb25) rfl) ?_
        refine st (v := (B true)) (rv_move rfl) ?_
        refine st_skip rfl ?_
        refine st_skip rfl ?_
        refine st (v := (B true)) (rv_pick_t rfl rfl) ?_
        refine st (v := (B true)) (rv_move rfl) ?_
        refine st_skip rfl ?_
        refine st_skip rfl ?_
        refine st_skip rfl ?_
        refine st (v := (B true)) (rv_pick_t rfl rfl) ?_
        refine w_end ?_
        obtain rfl := Option.some.inj h
        exact ⟨rfl, _, σ24, fr_join ⟨rfl, rfl, rfl, rfl, rfl, rfl, rfl, rfl, trivial⟩, rfl, H.sel' [5, 4, 0, 1] rfl rfl⟩
      · replace h := bif_f hb25 h
        refine st_g (v := (B r8.2)) (congrArg some hb25) (rv_move rfl) ?_
        refine st_g (v := (B r14.2)) (congrArg some hb25) (rv_move rfl) ?_
        refine st_g (v := (B (r8.2 != r14.2))) (congrArg some hb25) (rv_bneq Try.underlying4 rfl rfl) ?_
        refine st (v := (B (r8.2 != r14.2))) (rv_pick_f (congrArg B hb25) rfl) ?_
        refine st (v := (B (r8.2 != r14.2))) (rv_move rfl) ?_
        rcases Bool.eq_false_or_eq_true (r8.2 != r14.2) with hb26 | hb26
        · replace h := bif_t hb26 h
          refine st_skip (congrArg some hb26) ?_
          refine st_skip (congrArg some hb26) ?_
          refine st (v := (B true)) (rv_pick_t (congrArg B hb26) rfl) ?_
          refine st (v := (B true)) (rv_move rfl) ?_
          refine st_skip rfl ?_
          refine st_skip rfl ?_
          refine st_skip rfl ?_
          refine st (v := (B true)) (rv_pick_t rfl rfl) ?_
          refine w_end ?_
          obtain rfl := Option.some.inj h
          exact ⟨rfl, _, σ24, fr_join ⟨rfl, rfl, rfl, rfl, rfl, rfl, rfl, rfl, trivial⟩, rfl, H.sel' [5, 4, 0, 1] rfl rfl⟩
        · replace h := bif_f hb26 h
          refine st_g (v := (B r8.2)) (congrArg some hb26) (rv_move rfl) ?_
          refine st_g (v := (B (!r8.2))) (congrArg some hb26) (rv_not rfl) ?_
          refine st (v := (B (!r8.2))) (rv_pick_f (congrArg B hb26) rfl) ?_
          refine st (v := (B (!r8.2))) (rv_move rfl) ?_
          rcases Bool.eq_false_or_eq_true (!r8.2) with hb27 | hb27
          · replace h := bif_t hb27 h
            refine st_skip (congrArg some hb27) ?_
            refine st_skip (congrArg some hb27) ?_
            refine st_skip (congrArg some hb27) ?_
            refine st (v := (B true)) (rv_pick_t (congrArg B hb27) rfl) ?_
            refine w_end ?_
            obtain rfl := Option.some.inj h
            exact ⟨rfl, _, σ24, fr_join ⟨rfl, rfl, rfl, rfl, rfl, rfl, rfl, rfl, trivial⟩, rfl, H.sel' [5, 4, 0, 1] rfl rfl⟩
          · replace h := bif_f hb27 h
            refine st_g (v := (Sl a11 r8.1 c12)) (congrArg some hb27) (rv_move rfl) ?_
            refine st_g (v := (I (r8.1.length : Int))) (congrArg some hb27) (rv_len Try.underlying23 rfl) ?_
            refine st_g (v := (B ((r8.1.length : Int) == 0))) (congrArg some hb27) (rv_eql (a := (r8.1.length : Int)) (b := 0) rfl rfl) ?_
            refine st (v := (B ((r8.1.length : Int) == 0))) (rv_pick_f (congrArg B hb27) rfl) ?_
            refine w_end ?_
            obtain rfl := Option.some.inj h
            exact ⟨rfl, _, σ24, fr_join ⟨rfl, rfl, rfl, rfl, rfl, rfl, rfl, rfl, trivial⟩, rfl, H.sel' [5, 4, 0, 1] rfl rfl⟩
    · clear hj
      have h := h'
      clear h' H
      rintro e a w ⟨rfl, ρ, σ28, rfl, rfl, H⟩
      refine q_then ?_
      refine cd_cond o20 rfl (fun hb29 => ?_) (fun hb29 => ?_)
      · replace h := bif_t hb29 h
        refine c_seq ?_
        refine rg ?_
        refine st (v := (Sl a11 r8.1 c12)) (rv_move rfl) ?_
        refine st (v := (Sl a17 r14.1 c18)) (rv_move rfl) ?_
        obtain ⟨σ30, hw31, H, -⟩ := H.pub 2 rfl (Nat.le_refl _)
        rw [← hw31]; clear hw31
        obtain ⟨σ32, hw33, H, -⟩ := H.pub 3 rfl (Nat.le_refl _)
        rw [← hw33]; clear hw33
        replace H := H.roLow 0 0 rfl (Nat.zero_le _)
        obtain ⟨r34, hx35, h'⟩ := bind_some h
        clear h
        have h := h'; clear h'
        have hc36 := c_laws_equalItems (aa_0 := a11) (ca_0 := c12) (ab_1 := a17) (cb_1 := c18) hx35
        refine st_call (cx_call hc36 (ent_f hc36.fn rfl) hn0 (show Hp S0 σ0 _ ([Ch.ro 0 (Sl a11 r8.1 c12) r8.1, Ch.ro 0 (Sl a17 r14.1 c18) r14.1] ++ [Ch.ro 0 (Sl a17 r14.1 c18) r14.1, Ch.ro n0 (Sl a17 r14.1 c18) r14.1, Ch.ro 0 (Sl a11 r8.1 c12) r8.1, Ch.ro 0 (Sl acode_0 code_0 ccode_0) code_0, Ch.ro n0 (Sl a5 r2.1 c6) r2.1]) from (H.sel' [2, 0, 0, 1, 2, 3, 4] rfl rfl))) (wanted_none _ rfl _) ?_
        rintro _ σ37 ⟨_, ⟨rfl, rfl⟩, H, -⟩
        replace H : Hp S0 σ0 σ37 [Ch.ro 0 (Sl a17 r14.1 c18) r14.1, Ch.ro n0 (Sl a17 r14.1 c18) r14.1, Ch.ro 0 (Sl a11 r8.1 c12) r8.1, Ch.ro 0 (Sl acode_0 code_0 ccode_0) code_0, Ch.ro n0 (Sl a5 r2.1 c6) r2.1] := H
        refine st (v := (B r34)) (rv_move rfl) ?_
        rcases Bool.eq_false_or_eq_true r34 with hb38 | hb38
        · replace h := bif_t hb38 h
          refine st_g (v := (B r8.2)) (congrArg some hb38) (rv_move rfl) ?_
          refine st_g (v := (B r14.2)) (congrArg some hb38) (rv_move rfl) ?_
          refine st_g (v := (B (r8.2 == r14.2))) (congrArg some hb38) (rv_beql Try.underlying4 rfl rfl) ?_
          refine st (v := (B (r8.2 == r14.2))) (rv_pick_t (congrArg B hb38) rfl) ?_
          refine st (v := (B (r8.2 == r14.2))) (rv_assign rfl) ?_
          refine w_end ?_
          refine q_then ?_
          refine c_ret ?_
          refine q_then_r ?_
          obtain rfl := Option.some.inj h
          exact fin_ret (v := (B (r8.2 == r14.2))) (results_ok Try.results11 (res_tmp (v := (B (r8.2 == r14.2))) rfl res_nil) rfl) ⟨rfl, rfl⟩ (H.sel' [] rfl rfl)
        · replace h := bif_f hb38 h
          refine st_skip (congrArg some hb38) ?_
          refine st_skip (congrArg some hb38) ?_
          refine st_skip (congrArg some hb38) ?_
          refine st (v := (B false)) (rv_pick_f (congrArg B hb38) rfl) ?_
          refine st (v := (B false)) (rv_assign rfl) ?_
          refine w_end ?_
          refine q_then ?_
          refine c_ret ?_
          refine q_then_r ?_
          obtain rfl := Option.some.inj h
          exact fin_ret (v := (B false)) (results_ok Try.results11 (res_tmp (v := (B false)) rfl res_nil) rfl) ⟨rfl, rfl⟩ (H.sel' [] rfl rfl)
      · replace h := bif_f hb29 h
        refine c_skip ?_
        refine q_then ?_
        refine c_seq ?_
        refine rg ?_
        refine st (v := (Sl a11 r8.1 c12)) (rv_move rfl) ?_
        refine st (v := (Sl acode_0 code_0 ccode_0)) (rv_move rfl) ?_
        refine st (v := (I (code_0.length : Int))) (rv_len Try.underlying22 rfl) ?_
        refine st (v := (Sl a11 r8.1 c12)) (rv_move rfl) ?_
        refine st (v := (I (r8.1.length : Int))) (rv_len Try.underlying23 rfl) ?_
        obtain ⟨q39, hx40, h'⟩ := bind_some h
        clear h
        have h := h'; clear h'
        refine st (v := (I q39)) (rv_remG (a := (code_0.length : Int)) (b := (r8.1.length : Int)) hx40 rfl rfl) ?_
        obtain ⟨x41, hx42, h'⟩ := bind_some h
        clear h
        have h := h'; clear h'
        obtain ⟨b44, o45, hi43, -⟩ := (H.own 2 rfl).ix hx42
        refine st (v := (pt b44 o45)) (rv_ix Try.underlying23 ti29 rfl rfl hi43) ?_
        refine st (v := (pt b44 (o45 + 0))) (rv_fieldAddr (off := 0) (ft := 3) Try.underlying29 rfl ti3 rfl rfl) ?_
        have hc46 := ((H.own 2 rfl).at hx42 hi43).fst.int
        refine st (v := (I x41.1)) (rv_load1 Try.underlying3 rfl rfl hc46) ?_
        refine st (v := (I x41.1)) (rv_assign rfl) ?_
        refine w_end ?_
        refine q_then ?_
        refine c_seq ?_
        refine rg ?_
        refine st (v := (Sl a11 r8.1 c12)) (rv_move rfl) ?_
        refine st (v := (I x41.1)) (rv_move rfl) ?_
        obtain ⟨σ47, hw48, H, -⟩ := H.pub 2 rfl (Nat.le_refl _)
        rw [← hw48]; clear hw48
        obtain ⟨r49, hx50, h'⟩ := bind_some h
        clear h
        have h := h'; clear h'
        have hc51 := c_impl_DropItem (alist_0 := a11) (clist_0 := c12) hx50
        refine st_call (cx_call hc51 (ent_f hc51.fn rfl) hn0 (show Hp S0 σ0 _ ([Ch.ro 0 (Sl a11 r8.1 c12) r8.1] ++ [Ch.ro 0 (Sl a11 r8.1 c12) r8.1, Ch.ro 0 (Sl acode_0 code_0 ccode_0) code_0, Ch.ro n0 (Sl a5 r2.1 c6) r2.1, Ch.own n0 n0 (Sl a17 r14.1 c18) r14.1]) from (H.sel' [0, 0, 1, 2, 3] rfl rfl))) (wanted_none _ rfl _) ?_
        rintro _ σ54 ⟨_, ⟨a52, c53, rfl, rfl⟩, H, -⟩
        replace H : Hp S0 σ0 σ54 [Ch.own 0 0 (Sl a52 r49.1 c53) r49.1, Ch.ro 0 (Sl a11 r8.1 c12) r8.1, Ch.ro 0 (Sl acode_0 code_0 ccode_0) code_0, Ch.ro n0 (Sl a5 r2.1 c6) r2.1, Ch.own n0 n0 (Sl a17 r14.1 c18) r14.1] := H
        refine st (v := (.tuple #[(Sl a52 r49.1 c53), (B r49.2)])) (rv_move rfl) ?_
        refine st (v := (Sl a52 r49.1 c53)) (rv_extract rfl rfl) ?_
        refine st (v := (B r49.2)) (rv_extract rfl rfl) ?_
        refine st (v := (Sl a52 r49.1 c53)) (rv_assign rfl) ?_
        refine st (v := (B r49.2)) (rv_assign rfl) ?_
        refine w_end ?_
        refine q_then ?_
        refine c_seq ?_
        refine rg ?_
        refine st (v := (Sl a5 r2.1 c6)) (rv_move rfl) ?_
        refine st (v := (I x41.1)) (rv_move rfl) ?_
        replace H := H.roLow 3 0 rfl (Nat.zero_le _)
        obtain ⟨r55, hx56, h'⟩ := bind_some h
        clear h
        have h := h'; clear h'
        have hc57 := c_impl_DropItem (alist_0 := a5) (clist_0 := c6) hx56
        refine st_call (cx_call hc57 (ent_f hc57.fn rfl) hn0 (show Hp S0 σ0 _ ([Ch.ro 0 (Sl a5 r2.1 c6) r2.1] ++ [Ch.ro 0 (Sl a5 r2.1 c6) r2.1, Ch.own 0 0 (Sl a52 r49.1 c53) r49.1, Ch.ro 0 (Sl a11 r8.1 c12) r8.1, Ch.ro 0 (Sl acode_0 code_0 ccode_0) code_0, Ch.ro n0 (Sl a5 r2.1 c6) r2.1, Ch.own n0 n0 (Sl a17 r14.1 c18) r14.1]) from (H.sel' [0, 0, 1, 2, 3, 4, 5] rfl rfl))) (wanted_none _ rfl _) ?_
        rintro _ σ60 ⟨_, ⟨a58, c59, rfl, rfl⟩, H, -⟩
        replace H : Hp S0 σ0 σ60 [Ch.own 0 0 (Sl a58 r55.1 c59) r55.1, Ch.ro 0 (Sl a5 r2.1 c6) r2.1, Ch.own 0 0 (Sl a52 r49.1 c53) r49.1, Ch.ro 0 (Sl a11 r8.1 c12) r8.1, Ch.ro 0 (Sl acode_0 code_0 ccode_0) code_0, Ch.ro n0 (Sl a5 r2.1 c6) r2.1, Ch.own n0 n0 (Sl a17 r14.1 c18) r14.1] := H
        refine st (v := (.tuple #[(Sl a58 r55.1 c59), (B r55.2)])) (rv_move rfl) ?_
        refine st (v := (Sl a58 r55.1 c59)) (rv_extract rfl rfl) ?_
        refine st (v := (B r55.2)) (rv_extract rfl rfl) ?_
        refine st (v := (Sl a58 r55.1 c59)) (rv_assign rfl) ?_
        refine st (v := (B r55.2)) (rv_assign rfl) ?_
        refine w_end ?_
        refine q_then ?_
        refine c_seq ?_
        refine rg ?_
        refine st (v := (Sl a58 r55.1 c59)) (rv_move rfl) ?_
        refine st (v := (I r2.2)) (rv_move rfl) ?_
        obtain ⟨σ61, hw62, H, -⟩ := H.pub 0 rfl (Nat.le_refl _)
        rw [← hw62]; clear hw62
        obtain ⟨r63, hx64, h'⟩ := bind_some h
        clear h
        have h := h'; clear h'
        have hc65 := c_impl_DropItem (alist_0 := a58) (clist_0 := c59) hx64
        refine st_call (cx_call hc65 (ent_f hc65.fn rfl) hn0 (show Hp S0 σ0 _ ([Ch.ro 0 (Sl a58 r55.1 c59) r55.1] ++ [Ch.ro 0 (Sl a58 r55.1 c59) r55.1, Ch.ro 0 (Sl a5 r2.1 c6) r2.1, Ch.own 0 0 (Sl a52 r49.1 c53) r49.1, Ch.ro 0 (Sl a11 r8.1 c12) r8.1, Ch.ro 0 (Sl acode_0 code_0 ccode_0) code_0, Ch.ro n0 (Sl a5 r2.1 c6) r2.1, Ch.own n0 n0 (Sl a17 r14.1 c18) r14.1]) from (H.sel' [0, 0, 1, 2, 3, 4, 5, 6] rfl rfl))) (wanted_none _ rfl _) ?_
        rintro _ σ68 ⟨_, ⟨a66, c67, rfl, rfl⟩, H, -⟩
        replace H : Hp S0 σ0 σ68 [Ch.own 0 0 (Sl a66 r63.1 c67) r63.1, Ch.ro 0 (Sl a58 r55.1 c59) r55.1, Ch.ro 0 (Sl a5 r2.1 c6) r2.1, Ch.own 0 0 (Sl a52 r49.1 c53) r49.1, Ch.ro 0 (Sl a11 r8.1 c12) r8.1, Ch.ro 0 (Sl acode_0 code_0 ccode_0) code_0, Ch.ro n0 (Sl a5 r2.1 c6) r2.1, Ch.own n0 n0 (Sl a17 r14.1 c18) r14.1] := H
        replace H : Hp S0 σ0 σ68 [Ch.own 0 0 (Sl a66 r63.1 c67) r63.1, Ch.own 0 0 (Sl a52 r49.1 c53) r49.1] := H.sel' [0, 3] rfl rfl
        refine st (v := (.tuple #[(Sl a66 r63.1 c67), (B r63.2)])) (rv_move rfl) ?_
        refine st (v := (Sl a66 r63.1 c67)) (rv_extract rfl rfl) ?_
        refine st (v := (B r63.2)) (rv_extract rfl rfl) ?_
        refine st (v := (Sl a66 r63.1 c67)) (rv_assign rfl) ?_
        refine st (v := (B r63.2)) (rv_assign rfl) ?_
        refine w_end ?_
        refine q_then ?_
        refine c_seq ?_
        refine rg ?_
        refine st (v := (B r49.2)) (rv_move rfl) ?_
        refine st (v := (B r49.2)) (rv_move rfl) ?_
        rcases Bool.eq_false_or_eq_true r49.2 with hb69 | hb69
        · replace h := bif_t hb69 h
          refine st_g (v := (B r55.2)) (congrArg some hb69) (rv_move rfl) ?_
          refine st (v := (B r55.2)) (rv_pick_t (congrArg B hb69) rfl) ?_
          refine st (v := (B r55.2)) (rv_move rfl) ?_
          rcases Bool.eq_false_or_eq_true r55.2 with hb70 | hb70
          · replace h := bif_t hb70 h
            refine st_g (v := (B r63.2)) (congrArg some hb70) (rv_move rfl) ?_
            refine st (v := (B r63.2)) (rv_pick_t (congrArg B hb70) rfl) ?_
            refine st (v := (B r63.2)) (rv_move rfl) ?_
            rcases Bool.eq_false_or_eq_true r63.2 with hb71 | hb71
            · replace h := bif_t hb71 h
              refine st_g (v := (Sl a52 r49.1 c53)) (congrArg some hb71) (rv_move rfl) ?_
              refine st_g (v := (Sl a66 r63.1 c67)) (congrArg some hb71) (rv_move rfl) ?_
              obtain ⟨σ72, hw73, H, -⟩ := H.pub 1 rfl (Nat.le_refl _)
              rw [← hw73]; clear hw73
              obtain ⟨σ74, hw75, H, -⟩ := H.pub 1 rfl (Nat.le_refl _)
              rw [← hw75]; clear hw75
              obtain ⟨r76, hx77, h'⟩ := bind_some h
              clear h
              have h := h'; clear h'
              have hc78 := c_laws_equalItems (aa_0 := a52) (ca_0 := c53) (ab_1 := a66) (cb_1 := c67) hx77
              refine st_call (cx_call hc78 (ent_f hc78.fn rfl) hn0 (show Hp S0 σ0 _ ([Ch.ro 0 (Sl a52 r49.1 c53) r49.1, Ch.ro 0 (Sl a66 r63.1 c67) r63.1] ++ [Ch.ro 0 (Sl a66 r63.1 c67) r63.1, Ch.ro 0 (Sl a52 r49.1 c53) r49.1]) from (H.sel' [1, 0, 0, 1] rfl rfl))) (wanted_yes rfl (by exact (congrArg some hb71))) ?_
              rintro _ σ79 ⟨_, ⟨rfl, rfl⟩, H, -⟩
              replace H : Hp S0 σ0 σ79 [Ch.ro 0 (Sl a66 r63.1 c67) r63.1, Ch.ro 0 (Sl a52 r49.1 c53) r49.1] := H
              refine st (v := (B r76)) (rv_pick_t (congrArg B hb71) rfl) ?_
              refine st (v := (B r76)) (rv_assign rfl) ?_
              refine w_end ?_
              refine q_then ?_
              refine c_ret ?_
              obtain rfl := Option.some.inj h
              exact fin_ret (v := (B r76)) (results_ok Try.results11 (res_tmp (v := (B r76)) rfl res_nil) rfl) ⟨rfl, rfl⟩ (H.sel' [] rfl rfl)
            · replace h := bif_f hb71 h
              refine st_skip (congrArg some hb71) ?_
              refine st_skip (congrArg some hb71) ?_
              refine st_skip (congrArg some hb71) ?_
              refine st (v := (B false)) (rv_pick_f (congrArg B hb71) rfl) ?_
              refine st (v := (B false)) (rv_assign rfl) ?_
              refine w_end ?_
              refine q_then ?_
              refine c_ret ?_
              obtain rfl := Option.some.inj h
              exact fin_ret (v := (B false)) (results_ok Try.results11 (res_tmp (v := (B false)) rfl res_nil) rfl) ⟨rfl, rfl⟩ (H.sel' [] rfl rfl)
          · replace h := bif_f hb70 h
            refine st_skip (congrArg some hb70) ?_
            refine st (v := (B false)) (rv_pick_f (congrArg B hb70) rfl) ?_
            refine st (v := (B false)) (rv_move rfl) ?_
            refine st_skip rfl ?_
            refine st_skip rfl ?_
            refine st_skip rfl ?_
            refine st (v := (B false)) (rv_pick_f rfl rfl) ?_
            refine st (v := (B false)) (rv_assign rfl) ?_
            refine w_end ?_
            refine q_then ?_
            refine c_ret ?_
            obtain rfl := Option.some.inj h
            exact fin_ret (v := (B false)) (results_ok Try.results11 (res_tmp (v := (B false)) rfl res_nil) rfl) ⟨rfl, rfl⟩ (H.sel' [] rfl rfl)
        · replace h := bif_f hb69 h
          refine st_skip (congrArg some hb69) ?_
          refine st (v := (B false)) (rv_pick_f (congrArg B hb69) rfl) ?_
          refine st (v := (B false)) (rv_move rfl) ?_
          refine st_skip rfl ?_
          refine st (v := (B false)) (rv_pick_f rfl rfl) ?_
          refine st (v := (B false)) (rv_move rfl) ?_
          refine st_skip rfl ?_
          refine st_skip rfl ?_
          refine st_skip rfl ?_
          refine st (v := (B false)) (rv_pick_f rfl rfl) ?_
          refine st (v := (B false)) (rv_assign rfl) ?_
          refine w_end ?_
          refine q_then ?_
          refine c_ret ?_
          obtain rfl := Option.some.inj h
          exact fin_ret (v := (B false)) (results_ok Try.results11 (res_tmp (v := (B false)) rfl res_nil) rfl) ⟨rfl, rfl⟩ (H.sel' [] rfl rfl)

end Go.Vs
