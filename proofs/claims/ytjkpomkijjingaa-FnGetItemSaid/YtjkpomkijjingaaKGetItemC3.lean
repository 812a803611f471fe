/- The functions compute what their models say. -/
import Derived.Test.YtjkpomkijjingaaKGetItemC2
set_option linter.unusedVariables false
set_option linter.unusedSimpArgs false
set_option maxRecDepth 20000
namespace Go.Vs
open Go Go.Proofs
attribute [local irreducible] Code.wp wpList wpQuiet Calls

theorem c_spec_anyStore {r_0 : (List UInt8) × Int} {ar_0_0 : Option Addr} {cr_0_0 : Nat} {lor_0 br_0 or_0 : Nat} {prer_0 sufr_0 : List Value} {r : (List (Int × (List Int) × Int)) × ((List UInt8) × Int)} (h : M.spec_anyStore r_0 = some r) :
    Cal2 Try.prog 31 [(pt br_0 or_0)] [Ch.bx lor_0 br_0 or_0 [(Sl ar_0_0 r_0.1 cr_0_0), (I r_0.2)] prer_0 sufr_0, Ch.ro 0 (Sl ar_0_0 r_0.1 cr_0_0) r_0.1] (fun n0 v L => ∃ (az1 : Option Addr), ∃ (cz2 : Nat), ∃ (az3 : Option Addr), ∃ (cz4 : Nat), v = (Sl az1 r.1 cz2) ∧ L = [Ch.own n0 n0 (Sl az1 r.1 cz2) r.1, Ch.bx lor_0 br_0 or_0 [(Sl az3 r.2.1 cz4), (I r.2.2)] prer_0 sufr_0, Ch.ro 0 (Sl az3 r.2.1 cz4) r.2.1]) := by
  refine cal2 (n := 30) Try.func31 rfl rfl rfl rfl ?_
  intro S0 σ0 n0 hn0 H
  unfold M.spec_anyStore at h
  refine c_seq ?_
  refine rg ?_
  refine st (v := (.slice none 0 0)) (rv_assign rfl) ?_
  refine w_end ?_
  refine q_then ?_
  refine c_seq ?_
  refine rg ?_
  refine st (v := (pt br_0 or_0)) (rv_move rfl) ?_
  obtain ⟨r1, hx2, h'⟩ := bind_some h
  clear h
  have h := h'; clear h'
  have hc3 := c_spec_someStore (lor_0 := lor_0) (br_0 := br_0) (or_0 := or_0) (prer_0 := prer_0) (sufr_0 := sufr_0) (ar_0_0 := ar_0_0) (cr_0_0 := cr_0_0) hx2
  refine st_call (cx_call hc3 (ent_f hc3.fn rfl) hn0 (show Hp S0 σ0 _ ([Ch.bx lor_0 br_0 or_0 [(Sl ar_0_0 r_0.1 cr_0_0), (I r_0.2)] prer_0 sufr_0, Ch.ro 0 (Sl ar_0_0 r_0.1 cr_0_0) r_0.1] ++ [Ch.ro 0 (Sl ar_0_0 r_0.1 cr_0_0) r_0.1]) from (H.sel' [0, 1, 1] rfl rfl))) (wanted_none _ rfl _) ?_
  rintro _ σ8 ⟨_, ⟨a4, c5, a6, c7, rfl, rfl⟩, H, -⟩
  replace H : Hp S0 σ0 σ8 [Ch.own n0 n0 (Sl a4 r1.1 c5) r1.1, Ch.bx lor_0 br_0 or_0 [(Sl a6 r1.2.1 c7), (I r1.2.2)] prer_0 sufr_0, Ch.ro 0 (Sl a6 r1.2.1 c7) r1.2.1, Ch.ro 0 (Sl ar_0_0 r_0.1 cr_0_0) r_0.1] := H
  refine st (v := (Sl a4 r1.1 c5)) (rv_assign rfl) ?_
  refine w_end ?_
  refine q_then ?_
  refine c_seq ?_
  refine c_seq ?_
  refine rg ?_
  refine st (v := (pt br_0 or_0)) (rv_move rfl) ?_
  obtain ⟨r9, hx10, h'⟩ := bind_some h
  clear h
  have h := h'; clear h'
  have hc11 := c_spec_reader_pick (lor_0 := lor_0) (br_0 := br_0) (or_0 := or_0) (prer_0 := prer_0) (sufr_0 := sufr_0) (ar_0_0 := a6) (cr_0_0 := c7) hx10
  refine st_call (cx_call hc11 (ent_f hc11.fn rfl) hn0 (show Hp S0 σ0 _ ([Ch.bx lor_0 br_0 or_0 [(Sl a6 r1.2.1 c7), (I r1.2.2)] prer_0 sufr_0, Ch.ro 0 (Sl a6 r1.2.1 c7) r1.2.1] ++ [Ch.own n0 n0 (Sl a4 r1.1 c5) r1.1, Ch.ro 0 (Sl a6 r1.2.1 c7) r1.2.1, Ch.ro 0 (Sl ar_0_0 r_0.1 cr_0_0) r_0.1]) from (H.sel' [1, 2, 0, 2, 3] rfl rfl))) (wanted_none _ rfl _) ?_
  rintro _ σ14 ⟨_, ⟨a12, c13, rfl, rfl⟩, H, -⟩
  replace H : Hp S0 σ0 σ14 [Ch.bx lor_0 br_0 or_0 [(Sl a12 r9.2.1 c13), (I r9.2.2)] prer_0 sufr_0, Ch.ro 0 (Sl a12 r9.2.1 c13) r9.2.1, Ch.own n0 n0 (Sl a4 r1.1 c5) r1.1, Ch.ro 0 (Sl a6 r1.2.1 c7) r1.2.1, Ch.ro 0 (Sl ar_0_0 r_0.1 cr_0_0) r_0.1] := H
  refine w_end ?_
  refine q_then ?_
  obtain ⟨o15, hj, h'⟩ := bind_some h
  clear h
  refine c_cut (fun e a w => e = .normal ∧ ∃ (ρ : Nat → Value) (σ : St) (aj1 : Option Addr) (cj2 : Nat) (aj3 : Option Addr) (cj4 : Nat), a = fr 30 (updL ρ [(0, (pt br_0 or_0)), (3, (Sl aj3 o15.2 cj4))]) ∧ w = σ.w ∧ Hp S0 σ0 σ [Ch.bx lor_0 br_0 or_0 [(Sl aj1 o15.1.1 cj2), (I o15.1.2)] prer_0 sufr_0, Ch.ro 0 (Sl aj1 o15.1.1 cj2) o15.1.1, Ch.own n0 n0 (Sl aj3 o15.2 cj4) o15.2]) ?_ ?_
  · clear h'
    rename _ = some o15 => h
    refine c_blk ?_
    refine c_seq ?_
    refine rg ?_
    refine st (v := (B (r9.1 == 0))) (rv_eql (a := r9.1) (b := 0) rfl rfl) ?_
    refine st (v := (B (r9.1 == 0))) (rv_assign rfl) ?_
    refine w_end ?_
    refine q_then ?_
    refine cd_cond (r9.1 == 0) rfl (fun hb16 => ?_) (fun hb16 => ?_)
    · replace h := bif_t hb16 h
      refine rg ?_
      refine st (v := (Sl a4 r1.1 c5)) (rv_move rfl) ?_
      refine st (v := (pt br_0 or_0)) (rv_move rfl) ?_
      obtain ⟨r17, hx18, h'⟩ := bind_some h
      clear h
      have h := h'; clear h'
      have hc19 := c_spec_anyItem (lor_0 := lor_0) (br_0 := br_0) (or_0 := or_0) (prer_0 := prer_0) (sufr_0 := sufr_0) (ar_0_0 := a12) (cr_0_0 := c13) hx18
      refine st_call (cx_call hc19 (ent_f hc19.fn rfl) hn0 (show Hp S0 σ0 _ ([Ch.bx lor_0 br_0 or_0 [(Sl a12 r9.2.1 c13), (I r9.2.2)] prer_0 sufr_0, Ch.ro 0 (Sl a12 r9.2.1 c13) r9.2.1] ++ [Ch.ro 0 (Sl a12 r9.2.1 c13) r9.2.1, Ch.own n0 n0 (Sl a4 r1.1 c5) r1.1, Ch.ro 0 (Sl a6 r1.2.1 c7) r1.2.1, Ch.ro 0 (Sl ar_0_0 r_0.1 cr_0_0) r_0.1]) from (H.sel' [0, 1, 1, 2, 3, 4] rfl rfl))) (wanted_none _ rfl _) ?_
      rintro _ σ24 ⟨_, ⟨a20, c21, a22, c23, rfl, rfl⟩, H, -⟩
      replace H : Hp S0 σ0 σ24 [Ch.own n0 n0 (Sl a20 r17.1.2.1 c21) r17.1.2.1, Ch.bx lor_0 br_0 or_0 [(Sl a22 r17.2.1 c23), (I r17.2.2)] prer_0 sufr_0, Ch.ro 0 (Sl a22 r17.2.1 c23) r17.2.1, Ch.ro 0 (Sl a12 r9.2.1 c13) r9.2.1, Ch.own n0 n0 (Sl a4 r1.1 c5) r1.1, Ch.ro 0 (Sl a6 r1.2.1 c7) r1.2.1, Ch.ro 0 (Sl ar_0_0 r_0.1 cr_0_0) r_0.1] := H
      obtain ⟨σ25, hw26, H, -⟩ := H.pub 0 rfl (Nat.le_refl _)
      rw [← hw26]; clear hw26
      refine st_ex (ex_buildSlice (el := n0) (xs := ([(r17.1.1, r17.1.2.1, r17.1.2.2)] : List (Int × (List Int) × Int))) (ps := [(0, (.agg #[(I r17.1.1), (Sl a20 r17.1.2.1 c21), (I r17.1.2.2)]))]) (cs := [(I r17.1.1), (Sl a20 r17.1.2.1 c21), (I r17.1.2.2)]) H hn0 Try.underlying23 ti29 rfl rfl (by kernel_rfl) (.cons (c := [(I r17.1.1), (Sl a20 r17.1.2.1 c21), (I r17.1.2.2)]) ⟨[(I r17.1.1)], [(Sl a20 r17.1.2.1 c21), (I r17.1.2.2)], rfl, rfl, ⟨[(Sl a20 r17.1.2.1 c21)], [(I r17.1.2.2)], rfl, ⟨_, rfl, (H.ro 0 rfl)⟩, rfl⟩⟩ (.nil)) rfl) (wanted_none _ rfl _) ?_
      rintro _ σ28 ⟨b27, rfl, H, -⟩
      replace H : Hp S0 σ0 σ28 [Ch.own n0 n0 (Sl (some ⟨b27, 0, none⟩) ([(r17.1.1, r17.1.2.1, r17.1.2.2)] : List (Int × (List Int) × Int)) 1) ([(r17.1.1, r17.1.2.1, r17.1.2.2)] : List (Int × (List Int) × Int)), Ch.bx lor_0 br_0 or_0 [(Sl a22 r17.2.1 c23), (I r17.2.2)] prer_0 sufr_0, Ch.ro 0 (Sl a22 r17.2.1 c23) r17.2.1, Ch.own n0 n0 (Sl a4 r1.1 c5) r1.1] := H.sel' [0, 2, 3, 5] rfl rfl
      obtain ⟨xs29, hx30, h'⟩ := bind_some h
      clear h
      have h := h'; clear h'
      refine st_ex (ex_append H (i := 3) rfl Try.underlying23 Try.underlying23 ti29 rfl rfl (by decide) (H.own 0 rfl).rd hx30 hn0 rfl rfl) (wanted_none _ rfl _) ?_
      rintro _ σ33 ⟨a31, c32, rfl, H, -⟩
      refine st (v := (Sl a31 xs29 c32)) (rv_assign rfl) ?_
      refine w_end ?_
      refine q_blk ?_
      obtain rfl := Option.some.inj h
      exact ⟨rfl, _, σ33, a22, c23, a31, c32, fr_join ⟨rfl, rfl, trivial⟩, rfl, H.sel' [2, 3, 0] rfl rfl⟩
    · replace h := bif_f hb16 h
      refine c_seq ?_
      refine rg ?_
      refine st (v := (B (r9.1 == 1))) (rv_eql (a := r9.1) (b := 1) rfl rfl) ?_
      refine st (v := (B (r9.1 == 1))) (rv_assign rfl) ?_
      refine w_end ?_
      refine q_then ?_
      refine cd_cond (r9.1 == 1) rfl (fun hb34 => ?_) (fun hb34 => ?_)
      · replace h := bif_t hb34 h
        refine c_seq ?_
        refine rg ?_
        refine st (v := (Sl a4 r1.1 c5)) (rv_move rfl) ?_
        refine st (v := (I (r1.1.length : Int))) (rv_len Try.underlying23 rfl) ?_
        refine st (v := (B (decide (0 < (r1.1.length : Int))))) (rv_gtr (a := (r1.1.length : Int)) (b := 0) rfl rfl) ?_
        refine w_end ?_
        refine q_then ?_
        refine cd_cond (decide (0 < (r1.1.length : Int))) rfl (fun hb35 => ?_) (fun hb35 => ?_)
        · replace h := bif_t hb35 h
          refine rg ?_
          refine st (v := (Sl a4 r1.1 c5)) (rv_move rfl) ?_
          refine st (v := (pt br_0 or_0)) (rv_move rfl) ?_
          refine st (v := (Sl a4 r1.1 c5)) (rv_move rfl) ?_
          refine st (v := (I (r1.1.length : Int))) (rv_len Try.underlying23 rfl) ?_
          obtain ⟨r36, hx37, h'⟩ := bind_some h
          clear h
          have h := h'; clear h'
          have hc38 := c_spec_reader_pick (lor_0 := lor_0) (br_0 := br_0) (or_0 := or_0) (prer_0 := prer_0) (sufr_0 := sufr_0) (ar_0_0 := a12) (cr_0_0 := c13) hx37
          refine st_call (cx_call hc38 (ent_f hc38.fn rfl) hn0 (show Hp S0 σ0 _ ([Ch.bx lor_0 br_0 or_0 [(Sl a12 r9.2.1 c13), (I r9.2.2)] prer_0 sufr_0, Ch.ro 0 (Sl a12 r9.2.1 c13) r9.2.1] ++ [Ch.ro 0 (Sl a12 r9.2.1 c13) r9.2.1, Ch.own n0 n0 (Sl a4 r1.1 c5) r1.1, Ch.ro 0 (Sl a6 r1.2.1 c7) r1.2.1, Ch.ro 0 (Sl ar_0_0 r_0.1 cr_0_0) r_0.1]) from (H.sel' [0, 1, 1, 2, 3, 4] rfl rfl))) (wanted_none _ rfl _) ?_
          rintro _ σ41 ⟨_, ⟨a39, c40, rfl, rfl⟩, H, -⟩
          replace H : Hp S0 σ0 σ41 [Ch.bx lor_0 br_0 or_0 [(Sl a39 r36.2.1 c40), (I r36.2.2)] prer_0 sufr_0, Ch.ro 0 (Sl a39 r36.2.1 c40) r36.2.1, Ch.ro 0 (Sl a12 r9.2.1 c13) r9.2.1, Ch.own n0 n0 (Sl a4 r1.1 c5) r1.1, Ch.ro 0 (Sl a6 r1.2.1 c7) r1.2.1, Ch.ro 0 (Sl ar_0_0 r_0.1 cr_0_0) r_0.1] := H
          refine st (v := (pt br_0 or_0)) (rv_move rfl) ?_
          obtain ⟨r42, hx43, h'⟩ := bind_some h
          clear h
          have h := h'; clear h'
          have hc44 := c_spec_anyVector (lor_0 := lor_0) (br_0 := br_0) (or_0 := or_0) (prer_0 := prer_0) (sufr_0 := sufr_0) (ar_0_0 := a39) (cr_0_0 := c40) hx43
          refine st_call (cx_call hc44 (ent_f hc44.fn rfl) hn0 (show Hp S0 σ0 _ ([Ch.bx lor_0 br_0 or_0 [(Sl a39 r36.2.1 c40), (I r36.2.2)] prer_0 sufr_0, Ch.ro 0 (Sl a39 r36.2.1 c40) r36.2.1] ++ [Ch.ro 0 (Sl a39 r36.2.1 c40) r36.2.1, Ch.ro 0 (Sl a12 r9.2.1 c13) r9.2.1, Ch.own n0 n0 (Sl a4 r1.1 c5) r1.1, Ch.ro 0 (Sl a6 r1.2.1 c7) r1.2.1, Ch.ro 0 (Sl ar_0_0 r_0.1 cr_0_0) r_0.1]) from (H.sel' [0, 1, 1, 2, 3, 4, 5] rfl rfl))) (wanted_none _ rfl _) ?_
          rintro _ σ49 ⟨_, ⟨a45, c46, a47, c48, rfl, rfl⟩, H, -⟩
          replace H : Hp S0 σ0 σ49 [Ch.own n0 n0 (Sl a45 r42.1 c46) r42.1, Ch.bx lor_0 br_0 or_0 [(Sl a47 r42.2.1 c48), (I r42.2.2)] prer_0 sufr_0, Ch.ro 0 (Sl a47 r42.2.1 c48) r42.2.1, Ch.ro 0 (Sl a39 r36.2.1 c40) r36.2.1, Ch.ro 0 (Sl a12 r9.2.1 c13) r9.2.1, Ch.own n0 n0 (Sl a4 r1.1 c5) r1.1, Ch.ro 0 (Sl a6 r1.2.1 c7) r1.2.1, Ch.ro 0 (Sl ar_0_0 r_0.1 cr_0_0) r_0.1] := H
          replace H : Hp S0 σ0 σ49 [Ch.own n0 n0 (Sl a45 r42.1 c46) r42.1, Ch.bx lor_0 br_0 or_0 [(Sl a47 r42.2.1 c48), (I r42.2.2)] prer_0 sufr_0, Ch.ro 0 (Sl a47 r42.2.1 c48) r42.2.1, Ch.own n0 n0 (Sl a4 r1.1 c5) r1.1] := H.sel' [0, 1, 2, 5] rfl rfl
          obtain ⟨x50, hx51, h'⟩ := bind_some h
          clear h
          have h := h'; clear h'
          obtain ⟨b53, o54, hi52, -⟩ := (H.own 3 rfl).ix hx51
          refine st (v := (pt b53 o54)) (rv_ix Try.underlying23 ti29 rfl rfl hi52) ?_
          refine st (v := (pt b53 (o54 + 1))) (rv_fieldAddr (off := 1) (ft := 27) Try.underlying29 rfl ti27 rfl rfl) ?_
          obtain ⟨σ55, hw56, H, -⟩ := H.pub 0 rfl (Nat.le_refl _)
          rw [← hw56]; clear hw56
          refine st_exS (ex_store_own (e' := (x50.1, r42.1, x50.2.2)) (vs := [(Sl a45 r42.1 c46)]) (k := 1) H (i := 3) rfl ti27 hx51 hi52 rfl rfl rfl rfl rfl (Nat.le_of_ble_eq_true rfl) (by simp [plain]) (by rintro _ ⟨_, _, rfl, rfl, ⟨_, _, rfl, ⟨_, rfl, hR59⟩, rfl⟩⟩; exact ⟨[(I x50.1)], [(Sl a45 r42.1 c46), (I x50.2.2)], rfl, rfl, ⟨[(Sl a45 r42.1 c46)], [(I x50.2.2)], rfl, ⟨_, rfl, (H.ro 0 rfl)⟩, rfl⟩⟩)) (wanted_none _ rfl _) ?_
          rintro σ60 ⟨H, -⟩
          have hsl : (Sl a4 r1.1 c5) = (Sl a4 (r1.1.set r36.1.toNat (x50.1, r42.1, x50.2.2)) c5) := sl_len List.length_set.symm
          rw [hsl]; rw [hsl] at H; clear hsl
          refine w_end ?_
          refine q_blk ?_
          obtain rfl := Option.some.inj h
          exact ⟨rfl, _, σ60, a47, c48, a4, c5, fr_join ⟨rfl, rfl, trivial⟩, rfl, H.sel' [2, 3, 0] rfl rfl⟩
        · replace h := bif_f hb35 h
          refine c_skip ?_
          refine q_blk ?_
          obtain rfl := Option.some.inj h
          exact ⟨rfl, _, σ14, a12, c13, a4, c5, fr_join ⟨rfl, rfl, trivial⟩, rfl, H.sel' [0, 1, 2] rfl rfl⟩
      · replace h := bif_f hb34 h
        refine c_skip ?_
        refine q_blk ?_
        obtain rfl := Option.some.inj h
        exact ⟨rfl, _, σ14, a12, c13, a4, c5, fr_join ⟨rfl, rfl, trivial⟩, rfl, H.sel' [0, 1, 2] rfl rfl⟩
  · clear hj
    have h := h'
    clear h' H
    rintro e a w ⟨rfl, ρ, σ61, a62, c63, a64, c65, rfl, rfl, H⟩
    refine q_then ?_
    refine c_seq ?_
    refine rg ?_
    refine st (v := (Sl a64 o15.2 c65)) (rv_move rfl) ?_
    refine st (v := (Sl a64 o15.2 c65)) (rv_assign rfl) ?_
    refine w_end ?_
    refine q_then ?_
    refine c_ret ?_
    obtain rfl := Option.some.inj h
    exact fin_ret (v := (Sl a64 o15.2 c65)) (results_ok Try.results31 (res_tmp (v := (Sl a64 o15.2 c65)) rfl res_nil) rfl) ⟨a64, c65, a62, c63, rfl, rfl⟩ (H.sel' [2, 0, 1] rfl rfl)

theorem c_spec_newReader {code_0 : List UInt8} {acode_0 : Option Addr} {ccode_0 : Nat} {r : ((List UInt8) × Int)} (h : M.spec_newReader code_0 = some r) :
    Cal2 Try.prog 32 [(Sl acode_0 code_0 ccode_0)] [Ch.ro 0 (Sl acode_0 code_0 ccode_0) code_0] (fun n0 v L => ∃ (bz1 : Nat), ∃ (az2 : Option Addr), ∃ (cz3 : Nat), v = (pt bz1 0) ∧ L = [Ch.bx n0 bz1 0 [(Sl az2 r.1 cz3), (I r.2)] [] [], Ch.ro 0 (Sl az2 r.1 cz3) r.1]) := by
  refine cal2 (n := 11) Try.func32 rfl rfl rfl rfl ?_
  intro S0 σ0 n0 hn0 H
  unfold M.spec_newReader at h
  refine c_seq ?_
  refine rg ?_
  refine st (v := (.pointer none)) (rv_assign rfl) ?_
  refine w_end ?_
  refine q_then ?_
  refine c_seq ?_
  refine c_seq ?_
  refine rg ?_
  refine st (v := (Sl acode_0 code_0 ccode_0)) (rv_move rfl) ?_
  refine st (v := (I (code_0.length : Int))) (rv_len Try.underlying22 rfl) ?_
  refine st (v := (B (decide (2000 < (code_0.length : Int))))) (rv_gtr (a := (code_0.length : Int)) (b := 2000) rfl rfl) ?_
  refine w_end ?_
  refine q_then ?_
  obtain ⟨o1, hj, h'⟩ := bind_some h
  clear h
  refine c_cut (fun e a w => e = .normal ∧ ∃ (ρ : Nat → Value) (σ : St) (aj1 : Option Addr) (cj2 : Nat), a = fr 11 (updL ρ [(0, (Sl aj1 o1 cj2))]) ∧ w = σ.w ∧ Hp S0 σ0 σ [Ch.ro 0 (Sl aj1 o1 cj2) o1]) ?_ ?_
  · clear h'
    rename _ = some o1 => h
    refine cd_cond (decide (2000 < (code_0.length : Int))) rfl (fun hb2 => ?_) (fun hb2 => ?_)
    · replace h := bif_t hb2 h
      refine rg ?_
      refine st (v := (Sl acode_0 code_0 ccode_0)) (rv_move rfl) ?_
      obtain ⟨xs3, hx4, h'⟩ := bind_some h
      clear h
      have h := h'; clear h'
      obtain ⟨a5, c6, hs7, hR8⟩ := (H.ro 0 rfl).slice hx4
      replace H := H.add (d := Ch.ro 0 (Sl a5 xs3 c6) xs3) hR8 (fun _ h => h)
      clear hR8
      refine st (v := (Sl a5 xs3 c6)) (rv_slice_h Try.underlying22 ti5 hs7 rfl rfl) ?_
      refine st (v := (Sl a5 xs3 c6)) (rv_assign rfl) ?_
      refine w_end ?_
      obtain rfl := Option.some.inj h
      exact ⟨rfl, _, σ0, a5, c6, fr_join ⟨rfl, trivial⟩, rfl, H.sel' [0] rfl rfl⟩
    · replace h := bif_f hb2 h
      refine c_skip ?_
      obtain rfl := Option.some.inj h
      exact ⟨rfl, _, σ0, acode_0, ccode_0, fr_join ⟨rfl, trivial⟩, rfl, H.sel' [0] rfl rfl⟩
  · clear hj
    have h := h'
    clear h' H
    rintro e a w ⟨rfl, ρ, σ9, a10, c11, rfl, rfl, H⟩
    refine q_then ?_
    refine c_seq ?_
    refine rg ?_
    refine st (v := (Sl a10 o1 c11)) (rv_move rfl) ?_
    refine st (v := (.agg #[(Sl a10 o1 c11), (I 0)])) (rv_build (ps := [(0, (Sl a10 o1 c11))]) Try.underlying64 ti64 (bp64 Try.underlying64) rfl (by kernel_rfl)) ?_
    refine st_ex (ex_box (cs := [(Sl a10 o1 c11), (I 0)]) H hn0 rfl rfl) (wanted_none _ rfl _) ?_
    rintro _ σ13 ⟨b12, rfl, H, -⟩
    refine st (v := (pt b12 0)) (rv_assign rfl) ?_
    refine w_end ?_
    refine q_then ?_
    refine c_ret ?_
    obtain rfl := Option.some.inj h
    exact fin_ret (v := (pt b12 0)) (results_ok Try.results32 (res_tmp (v := (pt b12 0)) rfl res_nil) rfl) ⟨b12, a10, c11, rfl, rfl⟩ (H.sel' [0, 1] rfl rfl)

theorem c_spec_someKey {r_0 : (List UInt8) × Int} {list_1 : List (Int × (List Int) × Int)} {ar_0_0 : Option Addr} {cr_0_0 : Nat} {lor_0 br_0 or_0 : Nat} {prer_0 sufr_0 : List Value} {alist_1 : Option Addr} {clist_1 : Nat} {r : Int × ((List UInt8) × Int)} (h : M.spec_someKey r_0 list_1 = some r) :
    Cal2 Try.prog 42 [(pt br_0 or_0), (Sl alist_1 list_1 clist_1)] [Ch.bx lor_0 br_0 or_0 [(Sl ar_0_0 r_0.1 cr_0_0), (I r_0.2)] prer_0 sufr_0, Ch.ro 0 (Sl ar_0_0 r_0.1 cr_0_0) r_0.1, Ch.ro 0 (Sl alist_1 list_1 clist_1) list_1] (fun n0 v L => ∃ (az1 : Option Addr), ∃ (cz2 : Nat), v = (I r.1) ∧ L = [Ch.bx lor_0 br_0 or_0 [(Sl az1 r.2.1 cz2), (I r.2.2)] prer_0 sufr_0, Ch.ro 0 (Sl az1 r.2.1 cz2) r.2.1]) := by
  refine cal2 (n := 24) Try.func42 rfl rfl rfl rfl ?_
  intro S0 σ0 n0 hn0 H
  unfold M.spec_someKey at h
  refine c_seq ?_
  refine rg ?_
  refine st (v := (I 0)) (rv_assign rfl) ?_
  refine w_end ?_
  refine q_then ?_
  refine c_seq ?_
  refine c_seq ?_
  obtain ⟨o1, hj, h'⟩ := bind_some h
  clear h
  refine c_cut (fun e a w => e = .normal ∧ ∃ (ρ : Nat → Value) (σ : St) (aj1 : Option Addr) (cj2 : Nat), a = fr 24 (updL ρ [(0, (pt br_0 or_0)), (1, (Sl alist_1 list_1 clist_1)), (12, (B o1.2))]) ∧ w = σ.w ∧ Hp S0 σ0 σ [Ch.bx lor_0 br_0 or_0 [(Sl aj1 o1.1.1 cj2), (I o1.1.2)] prer_0 sufr_0, Ch.ro 0 (Sl aj1 o1.1.1 cj2) o1.1.1, Ch.ro 0 (Sl alist_1 list_1 clist_1) list_1]) ?_ ?_
  · clear h'
    rename _ = some o1 => h
    refine rg ?_
    refine st (v := (Sl alist_1 list_1 clist_1)) (rv_move rfl) ?_
    refine st (v := (I (list_1.length : Int))) (rv_len Try.underlying23 rfl) ?_
    refine st (v := (B (decide (0 < (list_1.length : Int))))) (rv_gtr (a := (list_1.length : Int)) (b := 0) rfl rfl) ?_
    refine st (v := (B (decide (0 < (list_1.length : Int))))) (rv_move rfl) ?_
    rcases Bool.eq_false_or_eq_true (decide (0 < (list_1.length : Int))) with hb2 | hb2
    · replace h := bif_t hb2 h
      refine st_g (v := (pt br_0 or_0)) (congrArg some hb2) (rv_move rfl) ?_
      obtain ⟨r3, hx4, h'⟩ := bind_some h
      clear h
      have h := h'; clear h'
      have hc5 := c_spec_reader_pick (lor_0 := lor_0) (br_0 := br_0) (or_0 := or_0) (prer_0 := prer_0) (sufr_0 := sufr_0) (ar_0_0 := ar_0_0) (cr_0_0 := cr_0_0) hx4
      refine st_call (cx_call hc5 (ent_f hc5.fn rfl) hn0 (show Hp S0 σ0 _ ([Ch.bx lor_0 br_0 or_0 [(Sl ar_0_0 r_0.1 cr_0_0), (I r_0.2)] prer_0 sufr_0, Ch.ro 0 (Sl ar_0_0 r_0.1 cr_0_0) r_0.1] ++ [Ch.ro 0 (Sl ar_0_0 r_0.1 cr_0_0) r_0.1, Ch.ro 0 (Sl alist_1 list_1 clist_1) list_1]) from (H.sel' [0, 1, 1, 2] rfl rfl))) (wanted_yes rfl (by exact (congrArg some hb2))) ?_
      rintro _ σ8 ⟨_, ⟨a6, c7, rfl, rfl⟩, H, -⟩
      replace H : Hp S0 σ0 σ8 [Ch.bx lor_0 br_0 or_0 [(Sl a6 r3.2.1 c7), (I r3.2.2)] prer_0 sufr_0, Ch.ro 0 (Sl a6 r3.2.1 c7) r3.2.1, Ch.ro 0 (Sl ar_0_0 r_0.1 cr_0_0) r_0.1, Ch.ro 0 (Sl alist_1 list_1 clist_1) list_1] := H
      refine st_g (v := (B (decide (0 < r3.1)))) (congrArg some hb2) (rv_gtr (a := r3.1) (b := 0) rfl rfl) ?_
      refine st (v := (B (decide (0 < r3.1)))) (rv_pick_t (congrArg B hb2) rfl) ?_
      refine w_end ?_
      obtain rfl := Option.some.inj h
      exact ⟨rfl, _, σ8, a6, c7, fr_join ⟨rfl, rfl, rfl, trivial⟩, rfl, H.sel' [0, 1, 3] rfl rfl⟩
    · replace h := bif_f hb2 h
      refine st_skip (congrArg some hb2) ?_
      refine st_skip (congrArg some hb2) ?_
      refine st_skip (congrArg some hb2) ?_
      refine st (v := (B false)) (rv_pick_f (congrArg B hb2) rfl) ?_
      refine w_end ?_
      obtain rfl := Option.some.inj h
      exact ⟨rfl, _, σ0, ar_0_0, cr_0_0, fr_join ⟨rfl, rfl, rfl, trivial⟩, rfl, H.sel' [0, 1, 2] rfl rfl⟩
  · clear hj
    have h := h'
    clear h' H
    rintro e a w ⟨rfl, ρ, σ9, a10, c11, rfl, rfl, H⟩
    refine q_then ?_
    refine cd_cond o1.2 rfl (fun hb12 => ?_) (fun hb12 => ?_)
    · replace h := bif_t hb12 h
      refine c_seq ?_
      refine rg ?_
      refine st (v := (Sl alist_1 list_1 clist_1)) (rv_move rfl) ?_
      refine st (v := (pt br_0 or_0)) (rv_move rfl) ?_
      refine st (v := (Sl alist_1 list_1 clist_1)) (rv_move rfl) ?_
      refine st (v := (I (list_1.length : Int))) (rv_len Try.underlying23 rfl) ?_
      obtain ⟨r13, hx14, h'⟩ := bind_some h
      clear h
      have h := h'; clear h'
      have hc15 := c_spec_reader_pick (lor_0 := lor_0) (br_0 := br_0) (or_0 := or_0) (prer_0 := prer_0) (sufr_0 := sufr_0) (ar_0_0 := a10) (cr_0_0 := c11) hx14
      refine st_call (cx_call hc15 (ent_f hc15.fn rfl) hn0 (show Hp S0 σ0 _ ([Ch.bx lor_0 br_0 or_0 [(Sl a10 o1.1.1 c11), (I o1.1.2)] prer_0 sufr_0, Ch.ro 0 (Sl a10 o1.1.1 c11) o1.1.1] ++ [Ch.ro 0 (Sl a10 o1.1.1 c11) o1.1.1, Ch.ro 0 (Sl alist_1 list_1 clist_1) list_1]) from (H.sel' [0, 1, 1, 2] rfl rfl))) (wanted_none _ rfl _) ?_
      rintro _ σ18 ⟨_, ⟨a16, c17, rfl, rfl⟩, H, -⟩
      replace H : Hp S0 σ0 σ18 [Ch.bx lor_0 br_0 or_0 [(Sl a16 r13.2.1 c17), (I r13.2.2)] prer_0 sufr_0, Ch.ro 0 (Sl a16 r13.2.1 c17) r13.2.1, Ch.ro 0 (Sl a10 o1.1.1 c11) o1.1.1, Ch.ro 0 (Sl alist_1 list_1 clist_1) list_1] := H
      obtain ⟨x19, hx20, h'⟩ := bind_some h
      clear h
      have h := h'; clear h'
      obtain ⟨b22, o23, hi21, -⟩ := (H.ro 3 rfl).ix hx20
      refine st (v := (pt b22 o23)) (rv_ix Try.underlying23 ti29 rfl rfl hi21) ?_
      refine st (v := (pt b22 (o23 + 0))) (rv_fieldAddr (off := 0) (ft := 3) Try.underlying29 rfl ti3 rfl rfl) ?_
      have hc24 := ((H.ro 3 rfl).at hx20 hi21).fst.int
      refine st (v := (I x19.1)) (rv_load1 Try.underlying3 rfl rfl hc24) ?_
      refine st (v := (I x19.1)) (rv_assign rfl) ?_
      refine w_end ?_
      refine q_then ?_
      refine c_ret ?_
      refine q_then_r ?_
      obtain rfl := Option.some.inj h
      exact fin_ret (v := (I x19.1)) (results_ok Try.results42 (res_tmp (v := (I x19.1)) rfl res_nil) rfl) ⟨a16, c17, rfl, rfl⟩ (H.sel' [0, 1] rfl rfl)
    · replace h := bif_f hb12 h
      refine c_skip ?_
      refine q_then ?_
      refine c_seq ?_
      refine rg ?_
      refine st (v := (pt br_0 or_0)) (rv_move rfl) ?_
      refine st_ex (ex_buildSlice (el := n0) (xs := ([5, 99, 0, 31, -1] : List Int)) (ps := [(0, (I 5)), (1, (I 99)), (2, (I 0)), (3, (I 31)), (4, (I (-1)))]) (cs := [(I 5), (I 99), (I 0), (I 31), (I (-1))]) H hn0 Try.underlying27 ti3 rfl rfl (by kernel_rfl) (.cons (c := [(I 5)]) rfl (.cons (c := [(I 99)]) rfl (.cons (c := [(I 0)]) rfl (.cons (c := [(I 31)]) rfl (.cons (c := [(I (-1))]) rfl (.nil)))))) rfl) (wanted_none _ rfl _) ?_
      rintro _ σ26 ⟨b25, rfl, H, -⟩
      obtain ⟨σ27, hw28, H, -⟩ := H.pub 0 rfl (Nat.le_refl _)
      rw [← hw28]; clear hw28
      replace H := H.roLow 0 0 rfl (Nat.zero_le _)
      obtain ⟨r29, hx30, h'⟩ := bind_some h
      clear h
      have h := h'; clear h'
      have hc31 := c_spec_reader_one (lor_0 := lor_0) (br_0 := br_0) (or_0 := or_0) (prer_0 := prer_0) (sufr_0 := sufr_0) (ar_0_0 := a10) (cr_0_0 := c11) (alist_1 := (some ⟨b25, 0, none⟩)) (clist_1 := 5) hx30
      refine st_call (cx_call hc31 (ent_f hc31.fn rfl) hn0 (show Hp S0 σ0 _ ([Ch.bx lor_0 br_0 or_0 [(Sl a10 o1.1.1 c11), (I o1.1.2)] prer_0 sufr_0, Ch.ro 0 (Sl a10 o1.1.1 c11) o1.1.1, Ch.ro 0 (Sl (some ⟨b25, 0, none⟩) ([5, 99, 0, 31, -1] : List Int) 5) ([5, 99, 0, 31, -1] : List Int)] ++ [Ch.ro 0 (Sl (some ⟨b25, 0, none⟩) ([5, 99, 0, 31, -1] : List Int) 5) ([5, 99, 0, 31, -1] : List Int), Ch.ro n0 (Sl (some ⟨b25, 0, none⟩) ([5, 99, 0, 31, -1] : List Int) 5) ([5, 99, 0, 31, -1] : List Int), Ch.ro 0 (Sl a10 o1.1.1 c11) o1.1.1, Ch.ro 0 (Sl alist_1 list_1 clist_1) list_1]) from (H.sel' [2, 3, 0, 0, 1, 3, 4] rfl rfl))) (wanted_none _ rfl _) ?_
      rintro _ σ34 ⟨_, ⟨a32, c33, rfl, rfl⟩, H, -⟩
      replace H : Hp S0 σ0 σ34 [Ch.bx lor_0 br_0 or_0 [(Sl a32 r29.2.1 c33), (I r29.2.2)] prer_0 sufr_0, Ch.ro 0 (Sl a32 r29.2.1 c33) r29.2.1, Ch.ro 0 (Sl (some ⟨b25, 0, none⟩) ([5, 99, 0, 31, -1] : List Int) 5) ([5, 99, 0, 31, -1] : List Int), Ch.ro n0 (Sl (some ⟨b25, 0, none⟩) ([5, 99, 0, 31, -1] : List Int) 5) ([5, 99, 0, 31, -1] : List Int), Ch.ro 0 (Sl a10 o1.1.1 c11) o1.1.1, Ch.ro 0 (Sl alist_1 list_1 clist_1) list_1] := H
      refine st (v := (I r29.1)) (rv_assign rfl) ?_
      refine w_end ?_
      refine q_then ?_
      refine c_ret ?_
      obtain rfl := Option.some.inj h
      exact fin_ret (v := (I r29.1)) (results_ok Try.results42 (res_tmp (v := (I r29.1)) rfl res_nil) rfl) ⟨a32, c33, rfl, rfl⟩ (H.sel' [0, 1] rfl rfl)

theorem c_spec_DrawDropItem {code_0 : List UInt8} {acode_0 : Option Addr} {ccode_0 : Nat} {r : (List (Int × (List Int) × Int)) × Int} (h : M.spec_DrawDropItem code_0 = some r) :
    Cal2 Try.prog 22 [(Sl acode_0 code_0 ccode_0)] [Ch.ro 0 (Sl acode_0 code_0 ccode_0) code_0] (fun n0 v L => ∃ (az1 : Option Addr), ∃ (cz2 : Nat), v = (.tuple #[(Sl az1 r.1 cz2), (I r.2)]) ∧ L = [Ch.ro n0 (Sl az1 r.1 cz2) r.1]) := by
  refine cal2 (n := 14) Try.func22 rfl rfl rfl rfl ?_
  intro S0 σ0 n0 hn0 H
  unfold M.spec_DrawDropItem at h
  refine c_seq ?_
  refine rg ?_
  refine st (v := (.slice none 0 0)) (rv_assign rfl) ?_
  refine st (v := (I 0)) (rv_assign rfl) ?_
  refine w_end ?_
  refine q_then ?_
  refine c_seq ?_
  refine rg ?_
  refine st (v := (Sl acode_0 code_0 ccode_0)) (rv_move rfl) ?_
  obtain ⟨r1, hx2, h'⟩ := bind_some h
  clear h
  have h := h'; clear h'
  have hc3 := c_spec_newReader (acode_0 := acode_0) (ccode_0 := ccode_0) hx2
  refine st_call (cx_call hc3 (ent_f hc3.fn rfl) hn0 (show Hp S0 σ0 _ ([Ch.ro 0 (Sl acode_0 code_0 ccode_0) code_0] ++ [Ch.ro 0 (Sl acode_0 code_0 ccode_0) code_0]) from (H.sel' [0, 0] rfl rfl))) (wanted_none _ rfl _) ?_
  rintro _ σ7 ⟨_, ⟨b4, a5, c6, rfl, rfl⟩, H, -⟩
  replace H : Hp S0 σ0 σ7 [Ch.bx n0 b4 0 [(Sl a5 r1.1 c6), (I r1.2)] [] [], Ch.ro 0 (Sl a5 r1.1 c6) r1.1, Ch.ro 0 (Sl acode_0 code_0 ccode_0) code_0] := H
  refine st (v := (pt b4 0)) (rv_assign rfl) ?_
  refine w_end ?_
  refine q_then ?_
  refine c_seq ?_
  refine rg ?_
  refine st (v := (pt b4 0)) (rv_move rfl) ?_
  obtain ⟨r8, hx9, h'⟩ := bind_some h
  clear h
  have h := h'; clear h'
  have hc10 := c_spec_anyStore (lor_0 := n0) (br_0 := b4) (or_0 := 0) (prer_0 := []) (sufr_0 := []) (ar_0_0 := a5) (cr_0_0 := c6) hx9
  refine st_call (cx_call hc10 (ent_f hc10.fn rfl) hn0 (show Hp S0 σ0 _ ([Ch.bx n0 b4 0 [(Sl a5 r1.1 c6), (I r1.2)] [] [], Ch.ro 0 (Sl a5 r1.1 c6) r1.1] ++ [Ch.ro 0 (Sl a5 r1.1 c6) r1.1, Ch.ro 0 (Sl acode_0 code_0 ccode_0) code_0]) from (H.sel' [0, 1, 1, 2] rfl rfl))) (wanted_none _ rfl _) ?_
  rintro _ σ15 ⟨_, ⟨a11, c12, a13, c14, rfl, rfl⟩, H, -⟩
  replace H : Hp S0 σ0 σ15 [Ch.own n0 n0 (Sl a11 r8.1 c12) r8.1, Ch.bx n0 b4 0 [(Sl a13 r8.2.1 c14), (I r8.2.2)] [] [], Ch.ro 0 (Sl a13 r8.2.1 c14) r8.2.1, Ch.ro 0 (Sl a5 r1.1 c6) r1.1, Ch.ro 0 (Sl acode_0 code_0 ccode_0) code_0] := H
  refine st (v := (Sl a11 r8.1 c12)) (rv_assign rfl) ?_
  refine w_end ?_
  refine q_then ?_
  refine c_seq ?_
  refine rg ?_
  refine st (v := (Sl a11 r8.1 c12)) (rv_move rfl) ?_
  refine st (v := (pt b4 0)) (rv_move rfl) ?_
  refine st (v := (Sl a11 r8.1 c12)) (rv_move rfl) ?_
  obtain ⟨σ16, hw17, H, -⟩ := H.pub 0 rfl (Nat.le_refl _)
  rw [← hw17]; clear hw17
  replace H := H.roLow 0 0 rfl (Nat.zero_le _)
  obtain ⟨r18, hx19, h'⟩ := bind_some h
  clear h
  have h := h'; clear h'
  have hc20 := c_spec_someKey (lor_0 := n0) (br_0 := b4) (or_0 := 0) (prer_0 := []) (sufr_0 := []) (ar_0_0 := a13) (cr_0_0 := c14) (alist_1 := a11) (clist_1 := c12) hx19
  refine st_call (cx_call hc20 (ent_f hc20.fn rfl) hn0 (show Hp S0 σ0 _ ([Ch.bx n0 b4 0 [(Sl a13 r8.2.1 c14), (I r8.2.2)] [] [], Ch.ro 0 (Sl a13 r8.2.1 c14) r8.2.1, Ch.ro 0 (Sl a11 r8.1 c12) r8.1] ++ [Ch.ro 0 (Sl a11 r8.1 c12) r8.1, Ch.ro n0 (Sl a11 r8.1 c12) r8.1, Ch.ro 0 (Sl a13 r8.2.1 c14) r8.2.1, Ch.ro 0 (Sl a5 r1.1 c6) r1.1, Ch.ro 0 (Sl acode_0 code_0 ccode_0) code_0]) from (H.sel' [2, 3, 0, 0, 1, 3, 4, 5] rfl rfl))) (wanted_none _ rfl _) ?_
  rintro _ σ23 ⟨_, ⟨a21, c22, rfl, rfl⟩, H, -⟩
  replace H : Hp S0 σ0 σ23 [Ch.bx n0 b4 0 [(Sl a21 r18.2.1 c22), (I r18.2.2)] [] [], Ch.ro 0 (Sl a21 r18.2.1 c22) r18.2.1, Ch.ro 0 (Sl a11 r8.1 c12) r8.1, Ch.ro n0 (Sl a11 r8.1 c12) r8.1, Ch.ro 0 (Sl a13 r8.2.1 c14) r8.2.1, Ch.ro 0 (Sl a5 r1.1 c6) r1.1, Ch.ro 0 (Sl acode_0 code_0 ccode_0) code_0] := H
  refine st (v := (Sl a11 r8.1 c12)) (rv_assign rfl) ?_
  refine st (v := (I r18.1)) (rv_assign rfl) ?_
  refine w_end ?_
  refine q_then ?_
  refine c_ret ?_
  obtain rfl := Option.some.inj h
  exact fin_ret (v := (.tuple #[(Sl a11 r8.1 c12), (I r18.1)])) (results_ok Try.results22 (res_tmp (v := (Sl a11 r8.1 c12)) rfl (res_tmp (v := (I r18.1)) rfl res_nil)) rfl) ⟨a11, c12, rfl, rfl⟩ (H.sel' [3] rfl rfl)

theorem c_spec_DrawGetItem {code_0 : List UInt8} {acode_0 : Option Addr} {ccode_0 : Nat} {r : (List (Int × (List Int) × Int)) × Int} (h : M.spec_DrawGetItem code_0 = some r) :
    Cal2 Try.prog 25 [(Sl acode_0 code_0 ccode_0)] [Ch.ro 0 (Sl acode_0 code_0 ccode_0) code_0] (fun n0 v L => ∃ (az1 : Option Addr), ∃ (cz2 : Nat), v = (.tuple #[(Sl az1 r.1 cz2), (I r.2)]) ∧ L = [Ch.ro n0 (Sl az1 r.1 cz2) r.1]) := by
  refine cal2 (n := 8) Try.func25 rfl rfl rfl rfl ?_
  intro S0 σ0 n0 hn0 H
  unfold M.spec_DrawGetItem at h
  refine c_seq ?_
  refine rg ?_
  refine st (v := (.slice none 0 0)) (rv_assign rfl) ?_
  refine st (v := (I 0)) (rv_assign rfl) ?_
  refine w_end ?_
  refine q_then ?_
  refine c_seq ?_
  refine rg ?_
  refine st (v := (Sl acode_0 code_0 ccode_0)) (rv_move rfl) ?_
  obtain ⟨r1, hx2, h'⟩ := bind_some h
  clear h
  have h := h'; clear h'
  have hc3 := c_spec_DrawDropItem (acode_0 := acode_0) (ccode_0 := ccode_0) hx2
  refine st_call (cx_call hc3 (ent_f hc3.fn rfl) hn0 (show Hp S0 σ0 _ ([Ch.ro 0 (Sl acode_0 code_0 ccode_0) code_0] ++ [Ch.ro 0 (Sl acode_0 code_0 ccode_0) code_0]) from (H.sel' [0, 0] rfl rfl))) (wanted_none _ rfl _) ?_
  rintro _ σ6 ⟨_, ⟨a4, c5, rfl, rfl⟩, H, -⟩
  replace H : Hp S0 σ0 σ6 [Ch.ro n0 (Sl a4 r1.1 c5) r1.1, Ch.ro 0 (Sl acode_0 code_0 ccode_0) code_0] := H
  refine st (v := (Sl a4 r1.1 c5)) (rv_extract rfl rfl) ?_
  refine st (v := (I r1.2)) (rv_extract rfl rfl) ?_
  refine st (v := (Sl a4 r1.1 c5)) (rv_assign rfl) ?_
  refine st (v := (I r1.2)) (rv_assign rfl) ?_
  refine w_end ?_
  refine q_then ?_
  refine c_ret ?_
  obtain rfl := Option.some.inj h
  exact fin_ret (v := (.tuple #[(Sl a4 r1.1 c5), (I r1.2)])) (results_ok Try.results25 (res_tmp (v := (Sl a4 r1.1 c5)) rfl (res_tmp (v := (I r1.2)) rfl res_nil)) rfl) ⟨a4, c5, rfl, rfl⟩ (H.sel' [0] rfl rfl)

theorem c_spec_keyAt {list_0 : List (Int × (List Int) × Int)} {key_1 : Int} {alist_0 : Option Addr} {clist_0 : Nat} {r : Int} (h : M.spec_keyAt list_0 key_1 = some r) :
    Cal2 Try.prog 44 [(Sl alist_0 list_0 clist_0), (I key_1)] [Ch.ro 0 (Sl alist_0 list_0 clist_0) list_0] (fun n0 v L => v = (I r) ∧ L = []) := by
  refine cal2 (n := 20) Try.func44 rfl rfl rfl rfl ?_
  intro S0 σ0 n0 hn0 H
  unfold M.spec_keyAt at h
  refine c_seq ?_
  refine rg ?_
  refine st (v := (I 0)) (rv_assign rfl) ?_
  refine w_end ?_
  refine q_then ?_
  refine c_seq ?_
  refine c_seq ?_
  refine rg ?_
  refine st (v := (I 0)) (rv_assign rfl) ?_
  refine w_end ?_
  refine q_then ?_
  obtain ⟨o1, hj, h'⟩ := bind_some h
  clear h
  refine c_cut (fun e a w => (∃ t, o1 = (.inl t) ∧ e = .normal ∧ ∃ (ρ : Nat → Value) (σ : St), a = fr 20 (updL ρ []) ∧ w = σ.w ∧ Hp S0 σ0 σ []) ∨ (∃ t, o1 = (.inr t) ∧ e = .ret ∧ ∃ (ρ : Nat → Value) (σ : St), a = fr 20 (updL ρ [(4, (I t))]) ∧ w = σ.w ∧ Hp S0 σ0 σ [])) ?_ ?_
  · clear h'
    rename _ = some o1 => h
    refine c_blk ?_
    refine wp_loopM _ h (fun s2 a w => ∃ (ρ : Nat → Value) (σ : St), a = fr 20 (updL ρ [(0, (Sl alist_0 list_0 clist_0)), (1, (I key_1)), (5, (I s2))]) ∧ w = σ.w ∧ Hp S0 σ0 σ [Ch.ro 0 (Sl alist_0 list_0 clist_0) list_0]) ⟨_, σ0, fr_join ⟨rfl, rfl, rfl, trivial⟩, rfl, H.sel' [0] rfl rfl⟩ ?_
    clear h H
    rintro s2 a w o ⟨ρ, σ3, rfl, rfl, H⟩ h hres
    refine c_seq ?_
    refine c_seq ?_
    refine rg ?_
    refine st (v := (I s2)) (rv_move rfl) ?_
    refine st (v := (Sl alist_0 list_0 clist_0)) (rv_move rfl) ?_
    refine st (v := (I (list_0.length : Int))) (rv_len Try.underlying23 rfl) ?_
    refine st (v := (B (decide (s2 < (list_0.length : Int))))) (rv_lss (a := s2) (b := (list_0.length : Int)) rfl rfl) ?_
    refine w_end ?_
    refine q_then ?_
    refine cd_cond (decide (s2 < (list_0.length : Int))) rfl (fun hb4 => ?_) (fun hb4 => ?_)
    · replace h := bif_t hb4 h
      refine c_skip ?_
      refine q_then ?_
      refine c_seq ?_
      refine c_blk ?_
      refine c_seq ?_
      refine rg ?_
      refine st (v := (Sl alist_0 list_0 clist_0)) (rv_move rfl) ?_
      refine st (v := (I s2)) (rv_move rfl) ?_
      obtain ⟨x5, hx6, h'⟩ := bind_some h
      clear h
      have h := h'; clear h'
      obtain ⟨b8, o9, hi7, -⟩ := (H.ro 0 rfl).ix hx6
      refine st (v := (pt b8 o9)) (rv_ix Try.underlying23 ti29 rfl rfl hi7) ?_
      refine st (v := (pt b8 (o9 + 0))) (rv_fieldAddr (off := 0) (ft := 3) Try.underlying29 rfl ti3 rfl rfl) ?_
      have hc10 := ((H.ro 0 rfl).at hx6 hi7).fst.int
      refine st (v := (I x5.1)) (rv_load1 Try.underlying3 rfl rfl hc10) ?_
      refine st (v := (I key_1)) (rv_move rfl) ?_
      refine st (v := (B (x5.1 == key_1))) (rv_eql (a := x5.1) (b := key_1) rfl rfl) ?_
      refine w_end ?_
      refine q_then ?_
      refine cd_cond (x5.1 == key_1) rfl (fun hb11 => ?_) (fun hb11 => ?_)
      · replace h := bif_t hb11 h
        refine c_seq ?_
        refine rg ?_
        refine st (v := (I s2)) (rv_move rfl) ?_
        refine st (v := (I s2)) (rv_assign rfl) ?_
        refine w_end ?_
        refine q_then ?_
        refine c_ret ?_
        refine q_blk_r ?_
        refine q_then_r ?_
        refine q_then_r ?_
        refine q_blk_r ?_
        obtain rfl := Option.some.inj h
        obtain rfl := hres _ rfl
        exact .inr (⟨_, rfl, rfl, _, σ3, fr_join ⟨rfl, trivial⟩, rfl, H.sel' [] rfl rfl⟩)
      · replace h := bif_f hb11 h
        refine c_skip ?_
        refine q_blk ?_
        refine q_then ?_
        refine rg ?_
        refine st (v := (I s2)) (rv_move rfl) ?_
        refine st (v := (I (w64 (s2 + 1)))) (rv_add (a := s2) (b := 1) rfl rfl) ?_
        refine st (v := (I (w64 (s2 + 1)))) (rv_assign rfl) ?_
        refine w_end ?_
        refine q_then ?_
        obtain rfl := Option.some.inj h
        exact ⟨_, rfl, _, σ3, fr_join ⟨rfl, rfl, rfl, trivial⟩, rfl, H.sel' [0] rfl rfl⟩
    · replace h := bif_f hb4 h
      refine c_exit ?_
      refine q_then_x ?_
      refine q_then_x ?_
      refine q_blk_hit ?_
      obtain rfl := Option.some.inj h
      obtain rfl := hres _ rfl
      exact .inl ⟨_, rfl, rfl, _, σ3, fr_join trivial, rfl, H.sel' [] rfl rfl⟩
  · clear hj
    have h := h'
    clear h' H
    rintro e a w (⟨t12, rfl, rfl, ρ, σ13, rfl, rfl, H⟩ | ⟨t14, rfl, rfl, ρ, σ15, rfl, rfl, H⟩)
    · replace h := selim_l h
      refine q_then ?_
      refine c_seq ?_
      refine rg ?_
      refine st (v := (I (-1))) (rv_assign rfl) ?_
      refine w_end ?_
      refine q_then ?_
      refine c_ret ?_
      obtain rfl := Option.some.inj h
      exact fin_ret (v := (I (-1))) (results_ok Try.results44 (res_tmp (v := (I (-1))) rfl res_nil) rfl) ⟨rfl, rfl⟩ (H.sel' [] rfl rfl)
    · replace h := selim_r h
      refine q_then_r ?_
      obtain rfl := Option.some.inj h
      exact fin_ret (v := (I t14)) (results_ok Try.results44 (res_tmp (v := (I t14)) rfl res_nil) rfl) ⟨rfl, rfl⟩ (H.sel' [] rfl rfl)

theorem c_spec_GetItem {list_0 : List (Int × (List Int) × Int)} {key_1 : Int} {alist_0 : Option Addr} {clist_0 : Nat} {r : (Int × (List Int) × Int) × Bool} (h : M.spec_GetItem list_0 key_1 = some r) :
    Cal2 Try.prog 26 [(Sl alist_0 list_0 clist_0), (I key_1)] [Ch.ro 0 (Sl alist_0 list_0 clist_0) list_0] (fun n0 v L => ∃ (az1 : Option Addr), ∃ (cz2 : Nat), v = (.tuple #[(.agg #[(I r.1.1), (Sl az1 r.1.2.1 cz2), (I r.1.2.2)]), (B r.2)]) ∧ L = [Ch.own n0 n0 (Sl az1 r.1.2.1 cz2) r.1.2.1]) := by
  refine cal2 (n := 23) Try.func26 rfl rfl rfl rfl ?_
  intro S0 σ0 n0 hn0 H
  unfold M.spec_GetItem at h
  refine c_seq ?_
  refine rg ?_
  refine st_ex (ex_alloc (cs := [(I 0), (.slice none 0 0), (I 0)]) H hn0 ti29 rfl) (wanted_none _ rfl _) ?_
  rintro _ σ2 ⟨b1, rfl, H, -⟩
  refine st (v := (B false)) (rv_assign rfl) ?_
  refine w_end ?_
  refine q_then ?_
  refine c_seq ?_
  refine c_seq ?_
  obtain ⟨o3, hj, h'⟩ := bind_some h
  clear h
  refine c_cut (fun e a w => e = .normal ∧ ∃ (ρ : Nat → Value) (σ : St), a = fr 23 (updL ρ [(0, (Sl alist_0 list_0 clist_0)), (1, (I key_1)), (4, (pt b1 0)), (14, (B o3))]) ∧ w = σ.w ∧ Hp S0 σ0 σ [Ch.ro 0 (Sl alist_0 list_0 clist_0) list_0, Ch.bx n0 b1 0 [(I 0), (.slice none 0 0), (I 0)] [] []]) ?_ ?_
  · clear h'
    rename _ = some o3 => h
    refine rg ?_
    refine st (v := (Sl alist_0 list_0 clist_0)) (rv_move rfl) ?_
    obtain ⟨r4, hx5, h'⟩ := bind_some h
    clear h
    have h := h'; clear h'
    have hc6 := c_spec_validStore (alist_0 := alist_0) (clist_0 := clist_0) hx5
    refine st_call (cx_call hc6 (ent_f hc6.fn rfl) hn0 (show Hp S0 σ0 _ ([Ch.ro 0 (Sl alist_0 list_0 clist_0) list_0] ++ [Ch.bx n0 b1 0 [(I 0), (.slice none 0 0), (I 0)] [] [], Ch.ro 0 (Sl alist_0 list_0 clist_0) list_0]) from (H.sel' [1, 0, 1] rfl rfl))) (wanted_none _ rfl _) ?_
    rintro _ σ7 ⟨_, ⟨rfl, rfl⟩, H, -⟩
    replace H : Hp S0 σ0 σ7 [Ch.bx n0 b1 0 [(I 0), (.slice none 0 0), (I 0)] [] [], Ch.ro 0 (Sl alist_0 list_0 clist_0) list_0] := H
    refine st (v := (B (!r4))) (rv_not rfl) ?_
    refine st (v := (B (!r4))) (rv_move rfl) ?_
    rcases Bool.eq_false_or_eq_true (!r4) with hb8 | hb8
    · replace h := bif_t hb8 h
      refine st_skip (congrArg some hb8) ?_
      refine st_skip (congrArg some hb8) ?_
      refine st_skip (congrArg some hb8) ?_
      refine st_skip (congrArg some hb8) ?_
      refine st (v := (B true)) (rv_pick_t (congrArg B hb8) rfl) ?_
      refine w_end ?_
      obtain rfl := Option.some.inj h
      exact ⟨rfl, _, σ7, fr_join ⟨rfl, rfl, rfl, rfl, trivial⟩, rfl, H.sel' [1, 0] rfl rfl⟩
    · replace h := bif_f hb8 h
      refine st_g (v := (Sl alist_0 list_0 clist_0)) (congrArg some hb8) (rv_move rfl) ?_
      refine st_g (v := (I key_1)) (congrArg some hb8) (rv_move rfl) ?_
      obtain ⟨r9, hx10, h'⟩ := bind_some h
      clear h
      have h := h'; clear h'
      have hc11 := c_spec_keyAt (alist_0 := alist_0) (clist_0 := clist_0) hx10
      refine st_call (cx_call hc11 (ent_f hc11.fn rfl) hn0 (show Hp S0 σ0 _ ([Ch.ro 0 (Sl alist_0 list_0 clist_0) list_0] ++ [Ch.bx n0 b1 0 [(I 0), (.slice none 0 0), (I 0)] [] [], Ch.ro 0 (Sl alist_0 list_0 clist_0) list_0]) from (H.sel' [1, 0, 1] rfl rfl))) (wanted_yes rfl (by exact (congrArg some hb8))) ?_
      rintro _ σ12 ⟨_, ⟨rfl, rfl⟩, H, -⟩
      replace H : Hp S0 σ0 σ12 [Ch.bx n0 b1 0 [(I 0), (.slice none 0 0), (I 0)] [] [], Ch.ro 0 (Sl alist_0 list_0 clist_0) list_0] := H
      refine st_g (v := (B (decide (r9 < 0)))) (congrArg some hb8) (rv_lss (a := r9) (b := 0) rfl rfl) ?_
      refine st (v := (B (decide (r9 < 0)))) (rv_pick_f (congrArg B hb8) rfl) ?_
      refine w_end ?_
      obtain rfl := Option.some.inj h
      exact ⟨rfl, _, σ12, fr_join ⟨rfl, rfl, rfl, rfl, trivial⟩, rfl, H.sel' [1, 0] rfl rfl⟩
  · clear hj
    have h := h'
    clear h' H
    rintro e a w ⟨rfl, ρ, σ13, rfl, rfl, H⟩
    refine q_then ?_
    refine cd_cond o3 rfl (fun hb14 => ?_) (fun hb14 => ?_)
    · replace h := bif_t hb14 h
      refine c_seq ?_
      refine rg ?_
      refine st (v := (.agg #[(I 0), (.slice none 0 0), (I 0)])) (rv_build (ps := []) Try.underlying29 ti29 (bp29 Try.underlying29) rfl (by kernel_rfl)) ?_
      refine st_exS (ex_store_box (k := 0) (cs := [(I 0), (.slice none 0 0), (I 0)]) (vs := [(I 0), (.slice none 0 0), (I 0)]) (cs' := [(I 0), (.slice none 0 0), (I 0)]) H (i := 1) rfl ti29 rfl rfl rfl rfl rfl (Nat.le_of_ble_eq_true rfl) (by simp [plain]) rfl) (wanted_none _ rfl _) ?_
      rintro σ15 ⟨H, -⟩
      refine st (v := (B false)) (rv_assign rfl) ?_
      refine w_end ?_
      refine q_then ?_
      refine c_ret ?_
      refine q_then_r ?_
      replace H := H.nilOwn Int n0 n0
      obtain rfl := Option.some.inj h
      exact fin_ret (v := (.tuple #[(.agg #[(I 0), (.slice none 0 0), (I 0)]), (B false)])) (results_ok Try.results26 (res_cell rfl (run_cellRes (cs := [(I 0), (.slice none 0 0), (I 0)]) Try.underlying29 rfl ti29 rfl (H.cells 1 rfl)) (res_tmp (v := (B false)) rfl res_nil)) rfl) ⟨none, 0, rfl, rfl⟩ (H.sel' [0] rfl rfl)
    · replace h := bif_f hb14 h
      refine c_skip ?_
      refine q_then ?_
      refine c_seq ?_
      refine rg ?_
      refine st (v := (Sl alist_0 list_0 clist_0)) (rv_move rfl) ?_
      refine st (v := (Sl alist_0 list_0 clist_0)) (rv_move rfl) ?_
      refine st (v := (I key_1)) (rv_move rfl) ?_
      obtain ⟨r16, hx17, h'⟩ := bind_some h
      clear h
      have h := h'; clear h'
      have hc18 := c_spec_keyAt (alist_0 := alist_0) (clist_0 := clist_0) hx17
      refine st_call (cx_call hc18 (ent_f hc18.fn rfl) hn0 (show Hp S0 σ0 _ ([Ch.ro 0 (Sl alist_0 list_0 clist_0) list_0] ++ [Ch.ro 0 (Sl alist_0 list_0 clist_0) list_0, Ch.bx n0 b1 0 [(I 0), (.slice none 0 0), (I 0)] [] []]) from (H.sel' [0, 0, 1] rfl rfl))) (wanted_none _ rfl _) ?_
      rintro _ σ19 ⟨_, ⟨rfl, rfl⟩, H, -⟩
      replace H : Hp S0 σ0 σ19 [Ch.ro 0 (Sl alist_0 list_0 clist_0) list_0, Ch.bx n0 b1 0 [(I 0), (.slice none 0 0), (I 0)] [] []] := H
      obtain ⟨x20, hx21, h'⟩ := bind_some h
      clear h
      have h := h'; clear h'
      obtain ⟨b23, o24, hi22, -⟩ := (H.ro 0 rfl).ix hx21
      refine st (v := (pt b23 o24)) (rv_ix Try.underlying23 ti29 rfl rfl hi22) ?_
      obtain ⟨_, ⟨_, _, rfl, rfl, ⟨_, _, rfl, ⟨_, rfl, hR29⟩, rfl⟩⟩, hl25, hc26⟩ := ((H.ro 0 rfl).at hx21 hi22).cells
      obtain ⟨a27, c28, rfl⟩ := hR29.isSl
      replace H := H.add (d := Ch.ro 0 (Sl a27 x20.2.1 c28) x20.2.1) hR29 (fun _ h => h)
      clear hR29
      refine st (v := (.agg #[(I x20.1), (Sl a27 x20.2.1 c28), (I x20.2.2)])) (rv_load Try.underlying29 rfl ti29 rfl hl25 hc26) ?_
      obtain ⟨r30, hx31, h'⟩ := bind_some h
      clear h
      have h := h'; clear h'
      have hc32 := c_spec_copyItem (ax_0_1 := a27) (cx_0_1 := c28) hx31
      refine st_call (cx_call hc32 (ent_f hc32.fn rfl) hn0 (show Hp S0 σ0 _ ([Ch.ro 0 (Sl a27 x20.2.1 c28) x20.2.1] ++ [Ch.ro 0 (Sl a27 x20.2.1 c28) x20.2.1, Ch.ro 0 (Sl alist_0 list_0 clist_0) list_0, Ch.bx n0 b1 0 [(I 0), (.slice none 0 0), (I 0)] [] []]) from (H.sel' [0, 0, 1, 2] rfl rfl))) (wanted_none _ rfl _) ?_
      rintro _ σ35 ⟨_, ⟨a33, c34, rfl, rfl⟩, H, -⟩
      replace H : Hp S0 σ0 σ35 [Ch.own n0 n0 (Sl a33 r30.2.1 c34) r30.2.1, Ch.ro 0 (Sl a27 x20.2.1 c28) x20.2.1, Ch.ro 0 (Sl alist_0 list_0 clist_0) list_0, Ch.bx n0 b1 0 [(I 0), (.slice none 0 0), (I 0)] [] []] := H
      refine st_exS (ex_store_box (k := 0) (cs := [(I 0), (.slice none 0 0), (I 0)]) (vs := [(I r30.1), (Sl a33 r30.2.1 c34), (I r30.2.2)]) (cs' := [(I r30.1), (Sl a33 r30.2.1 c34), (I r30.2.2)]) H (i := 3) rfl ti29 rfl rfl rfl rfl rfl (Nat.le_of_ble_eq_true rfl) (by simp [plain]) rfl) (wanted_none _ rfl _) ?_
      rintro σ36 ⟨H, -⟩
      refine st (v := (B true)) (rv_assign rfl) ?_
      refine w_end ?_
      refine q_then ?_
      refine c_ret ?_
      obtain rfl := Option.some.inj h
      exact fin_ret (v := (.tuple #[(.agg #[(I r30.1), (Sl a33 r30.2.1 c34), (I r30.2.2)]), (B true)])) (results_ok Try.results26 (res_cell rfl (run_cellRes (cs := [(I r30.1), (Sl a33 r30.2.1 c34), (I r30.2.2)]) Try.underlying29 rfl ti29 rfl (H.cells 0 rfl)) (res_tmp (v := (B true)) rfl res_nil)) rfl) ⟨a33, c34, rfl, rfl⟩ (H.sel' [1] rfl rfl)

theorem c_laws_FnGetItem {code_0 : List UInt8} {acode_0 : Option Addr} {ccode_0 : Nat} {r : Bool} (h : M.laws_FnGetItem code_0 = some r) :
    Cal2 Try.prog 8 [(Sl acode_0 code_0 ccode_0)] [Ch.ro 0 (Sl acode_0 code_0 ccode_0) code_0] (fun n0 v L => v = (B r) ∧ L = []) := by
  refine cal2 (n := 80) Try.func8 rfl rfl rfl rfl ?_
  intro S0 σ0 n0 hn0 H
  unfold M.laws_FnGetItem at h
  refine c_seq ?_
  refine rg ?_
  refine st (v := (B false)) (rv_assign rfl) ?_
  refine w_end ?_
  refine q_then ?_
  refine c_seq ?_
  refine c_seq ?_
  refine rg ?_
  refine st (v := (Sl acode_0 code_0 ccode_0)) (rv_move rfl) ?_
  refine st (v := (I (code_0.length : Int))) (rv_len Try.underlying22 rfl) ?_
  refine st (v := (B (decide (1048576 < (code_0.length : Int))))) (rv_gtr (a := (code_0.length : Int)) (b := 1048576) rfl rfl) ?_
  refine w_end ?_
  refine q_then ?_
  refine cd_cond (decide (1048576 < (code_0.length : Int))) rfl (fun hb1 => ?_) (fun hb1 => ?_)
  · replace h := bif_t hb1 h
    refine c_seq ?_
    refine rg ?_
    refine st (v := (B true)) (rv_assign rfl) ?_
    refine w_end ?_
    refine q_then ?_
    refine c_ret ?_
    refine q_then_r ?_
    obtain rfl := Option.some.inj h
    exact fin_ret (v := (B true)) (results_ok Try.results8 (res_tmp (v := (B true)) rfl res_nil) rfl) ⟨rfl, rfl⟩ (H.sel' [] rfl rfl)
  · replace h := bif_f hb1 h
    refine c_skip ?_
    refine q_then ?_
    refine c_seq ?_
    refine rg ?_
    refine st (v := (Sl acode_0 code_0 ccode_0)) (rv_move rfl) ?_
    obtain ⟨r2, hx3, h'⟩ := bind_some h
    clear h
    have h := h'; clear h'
    have hc4 := c_spec_DrawGetItem (acode_0 := acode_0) (ccode_0 := ccode_0) hx3
    refine st_call (cx_call hc4 (ent_f hc4.fn rfl) hn0 (show Hp S0 σ0 _ ([Ch.ro 0 (Sl acode_0 code_0 ccode_0) code_0] ++ [Ch.ro 0 (Sl acode_0 code_0 ccode_0) code_0]) from (H.sel' [0, 0] rfl rfl))) (wanted_none _ rfl _) ?_
    rintro _ σ7 ⟨_, ⟨a5, c6, rfl, rfl⟩, H, -⟩
    replace H : Hp S0 σ0 σ7 [Ch.ro n0 (Sl a5 r2.1 c6) r2.1, Ch.ro 0 (Sl acode_0 code_0 ccode_0) code_0] := H
    refine st (v := (.tuple #[(Sl a5 r2.1 c6), (I r2.2)])) (rv_move rfl) ?_
    refine st (v := (Sl a5 r2.1 c6)) (rv_extract rfl rfl) ?_
    refine st (v := (I r2.2)) (rv_extract rfl rfl) ?_
    refine st (v := (Sl a5 r2.1 c6)) (rv_assign rfl) ?_
    refine st (v := (I r2.2)) (rv_assign rfl) ?_
    refine w_end ?_
    refine q_then ?_
    refine c_seq ?_
    refine rg ?_
    refine st (v := (Sl a5 r2.1 c6)) (rv_move rfl) ?_
    refine st (v := (I r2.2)) (rv_move rfl) ?_
    replace H := H.roLow 0 0 rfl (Nat.zero_le _)
    obtain ⟨r8, hx9, h'⟩ := bind_some h
    clear h
    have h := h'; clear h'
    have hc10 := c_impl_GetItem (alist_0 := a5) (clist_0 := c6) hx9
    refine st_call (cx_call hc10 (ent_f hc10.fn rfl) hn0 (show Hp S0 σ0 _ ([Ch.ro 0 (Sl a5 r2.1 c6) r2.1] ++ [Ch.ro 0 (Sl a5 r2.1 c6) r2.1, Ch.ro n0 (Sl a5 r2.1 c6) r2.1, Ch.ro 0 (Sl acode_0 code_0 ccode_0) code_0]) from (H.sel' [0, 0, 1, 2] rfl rfl))) (wanted_none _ rfl _) ?_
    rintro _ σ13 ⟨_, ⟨a11, c12, rfl, rfl⟩, H, -⟩
    replace H : Hp S0 σ0 σ13 [Ch.own n0 n0 (Sl a11 r8.1.2.1 c12) r8.1.2.1, Ch.ro 0 (Sl a5 r2.1 c6) r2.1, Ch.ro n0 (Sl a5 r2.1 c6) r2.1, Ch.ro 0 (Sl acode_0 code_0 ccode_0) code_0] := H
    refine st (v := (.tuple #[(.agg #[(I r8.1.1), (Sl a11 r8.1.2.1 c12), (I r8.1.2.2)]), (B r8.2)])) (rv_move rfl) ?_
    refine st (v := (.agg #[(I r8.1.1), (Sl a11 r8.1.2.1 c12), (I r8.1.2.2)])) (rv_extract rfl rfl) ?_
    refine st (v := (B r8.2)) (rv_extract rfl rfl) ?_
    refine st_ex (ex_alloc (cs := [(I 0), (.slice none 0 0), (I 0)]) H hn0 ti29 rfl) (wanted_none _ rfl _) ?_
    rintro _ σ15 ⟨b14, rfl, H, -⟩
    refine st_exS (ex_store_box (k := 0) (cs := [(I 0), (.slice none 0 0), (I 0)]) (vs := [(I r8.1.1), (Sl a11 r8.1.2.1 c12), (I r8.1.2.2)]) (cs' := [(I r8.1.1), (Sl a11 r8.1.2.1 c12), (I r8.1.2.2)]) H (i := 0) rfl ti29 rfl rfl rfl rfl rfl (Nat.le_of_ble_eq_true rfl) (by simp [plain]) rfl) (wanted_none _ rfl _) ?_
    rintro σ16 ⟨H, -⟩
    refine st (v := (B r8.2)) (rv_assign rfl) ?_
    refine w_end ?_
    refine q_then ?_
    refine c_seq ?_
    refine rg ?_
    refine st (v := (Sl a5 r2.1 c6)) (rv_move rfl) ?_
    refine st (v := (I r2.2)) (rv_move rfl) ?_
    replace H := H.roLow 3 0 rfl (Nat.zero_le _)
    obtain ⟨r17, hx18, h'⟩ := bind_some h
    clear h
    have h := h'; clear h'
    have hc19 := c_spec_GetItem (alist_0 := a5) (clist_0 := c6) hx18
    refine st_call (cx_call hc19 (ent_f hc19.fn rfl) hn0 (show Hp S0 σ0 _ ([Ch.ro 0 (Sl a5 r2.1 c6) r2.1] ++ [Ch.ro 0 (Sl a5 r2.1 c6) r2.1, Ch.bx n0 b14 0 [(I r8.1.1), (Sl a11 r8.1.2.1 c12), (I r8.1.2.2)] [] [], Ch.own n0 n0 (Sl a11 r8.1.2.1 c12) r8.1.2.1, Ch.ro 0 (Sl a5 r2.1 c6) r2.1, Ch.ro n0 (Sl a5 r2.1 c6) r2.1, Ch.ro 0 (Sl acode_0 code_0 ccode_0) code_0]) from (H.sel' [0, 0, 1, 2, 3, 4, 5] rfl rfl))) (wanted_none _ rfl _) ?_
    rintro _ σ22 ⟨_, ⟨a20, c21, rfl, rfl⟩, H, -⟩
    replace H : Hp S0 σ0 σ22 [Ch.own n0 n0 (Sl a20 r17.1.2.1 c21) r17.1.2.1, Ch.ro 0 (Sl a5 r2.1 c6) r2.1, Ch.bx n0 b14 0 [(I r8.1.1), (Sl a11 r8.1.2.1 c12), (I r8.1.2.2)] [] [], Ch.own n0 n0 (Sl a11 r8.1.2.1 c12) r8.1.2.1, Ch.ro 0 (Sl a5 r2.1 c6) r2.1, Ch.ro n0 (Sl a5 r2.1 c6) r2.1, Ch.ro 0 (Sl acode_0 code_0 ccode_0) code_0] := H
    refine st (v := (.tuple #[(.agg #[(I r17.1.1), (Sl a20 r17.1.2.1 c21), (I r17.1.2.2)]), (B r17.2)])) (rv_move rfl) ?_
    refine st (v := (.agg #[(I r17.1.1), (Sl a20 r17.1.2.1 c21), (I r17.1.2.2)])) (rv_extract rfl rfl) ?_
    refine st (v := (B r17.2)) (rv_extract rfl rfl) ?_
    refine st_ex (ex_alloc (cs := [(I 0), (.slice none 0 0), (I 0)]) H hn0 ti29 rfl) (wanted_none _ rfl _) ?_
    rintro _ σ24 ⟨b23, rfl, H, -⟩
    replace H : Hp S0 σ0 σ24 [Ch.bx n0 b23 0 [(I 0), (.slice none 0 0), (I 0)] [] [], Ch.own n0 n0 (Sl a20 r17.1.2.1 c21) r17.1.2.1, Ch.bx n0 b14 0 [(I r8.1.1), (Sl a11 r8.1.2.1 c12), (I r8.1.2.2)] [] [], Ch.own n0 n0 (Sl a11 r8.1.2.1 c12) r8.1.2.1, Ch.ro n0 (Sl a5 r2.1 c6) r2.1] := H.sel' [0, 1, 3, 4, 6] rfl rfl
    refine st_exS (ex_store_box (k := 0) (cs := [(I 0), (.slice none 0 0), (I 0)]) (vs := [(I r17.1.1), (Sl a20 r17.1.2.1 c21), (I r17.1.2.2)]) (cs' := [(I r17.1.1), (Sl a20 r17.1.2.1 c21), (I r17.1.2.2)]) H (i := 0) rfl ti29 rfl rfl rfl rfl rfl (Nat.le_of_ble_eq_true rfl) (by simp [plain]) rfl) (wanted_none _ rfl _) ?_
    rintro σ25 ⟨H, -⟩
    refine st (v := (B r17.2)) (rv_assign rfl) ?_
    refine w_end ?_
    refine q_then ?_
    refine c_seq ?_
    refine c_seq ?_
    obtain ⟨o26, hj, h'⟩ := bind_some h
    clear h
    refine c_cut (fun e a w => e = .normal ∧ ∃ (ρ : Nat → Value) (σ : St), a = fr 80 (updL ρ [(3, (Sl a5 r2.1 c6)), (4, (I r2.2)), (5, (pt b14 0)), (6, (B r8.2)), (7, (pt b23 0)), (8, (B r17.2)), (44, (B o26))]) ∧ w = σ.w ∧ Hp S0 σ0 σ [Ch.ro n0 (Sl a5 r2.1 c6) r2.1, Ch.own n0 n0 (Sl a11 r8.1.2.1 c12) r8.1.2.1, Ch.bx n0 b14 0 [(I r8.1.1), (Sl a11 r8.1.2.1 c12), (I r8.1.2.2)] [] [], Ch.own n0 n0 (Sl a20 r17.1.2.1 c21) r17.1.2.1, Ch.bx n0 b23 0 [(I r17.1.1), (Sl a20 r17.1.2.1 c21), (I r17.1.2.2)] [] []]) ?_ ?_
    · clear h'
      rename _ = some o26 => h
      refine rg ?_
      have hc27 := H.cells 2 rfl
      refine st (v := (.agg #[(I r8.1.1), (Sl a11 r8.1.2.1 c12), (I r8.1.2.2)])) (rv_load (cs := [(I r8.1.1), (Sl a11 r8.1.2.1 c12), (I r8.1.2.2)]) Try.underlying29 rfl ti29 rfl rfl hc27) ?_
      have hc28 := H.cells 0 rfl
      refine st (v := (.agg #[(I r17.1.1), (Sl a20 r17.1.2.1 c21), (I r17.1.2.2)])) (rv_load (cs := [(I r17.1.1), (Sl a20 r17.1.2.1 c21), (I r17.1.2.2)]) Try.underlying29 rfl ti29 rfl rfl hc28) ?_
      obtain ⟨r29, hx30, h'⟩ := bind_some h
      clear h
      have h := h'; clear h'
      have hc31 := c_laws_equalItem (aa_0_1 := a11) (ca_0_1 := c12) (ab_1_1 := a20) (cb_1_1 := c21) hx30
      have hle := Nat.le_trans hn0 H.size
      refine st_call (cx_lend (Loan.lend (Loan.lend Loan.nil)) hc31 (ent_f hc31.fn rfl) (show Hp S0 σ0 _ ([Ch.own n0 n0 (Sl a11 r8.1.2.1 c12) r8.1.2.1, Ch.own n0 n0 (Sl a20 r17.1.2.1 c21) r17.1.2.1] ++ ([] ++ [Ch.bx n0 b23 0 [(I r17.1.1), (Sl a20 r17.1.2.1 c21), (I r17.1.2.2)] [] [], Ch.bx n0 b14 0 [(I r8.1.1), (Sl a11 r8.1.2.1 c12), (I r8.1.2.2)] [] [], Ch.ro n0 (Sl a5 r2.1 c6) r2.1])) from (H.sel' [3, 1, 0, 2, 4] rfl rfl)) (by rintro _ _ _ ⟨rfl, rfl⟩; exact trivial)) (wanted_none _ rfl _) ?_
      rintro _ σ32 ⟨_, ⟨rfl, rfl⟩, H, -, -⟩
      replace H : Hp S0 σ0 σ32 [Ch.own n0 n0 (Sl a11 r8.1.2.1 c12) r8.1.2.1, Ch.own n0 n0 (Sl a20 r17.1.2.1 c21) r17.1.2.1, Ch.bx n0 b23 0 [(I r17.1.1), (Sl a20 r17.1.2.1 c21), (I r17.1.2.2)] [] [], Ch.bx n0 b14 0 [(I r8.1.1), (Sl a11 r8.1.2.1 c12), (I r8.1.2.2)] [] [], Ch.ro n0 (Sl a5 r2.1 c6) r2.1] := H
      clear hle
      replace H : Hp S0 σ0 σ32 [Ch.own n0 n0 (Sl a11 r8.1.2.1 c12) r8.1.2.1, Ch.own n0 n0 (Sl a20 r17.1.2.1 c21) r17.1.2.1, Ch.bx n0 b23 0 [(I r17.1.1), (Sl a20 r17.1.2.1 c21), (I r17.1.2.2)] [] [], Ch.bx n0 b14 0 [(I r8.1.1), (Sl a11 r8.1.2.1 c12), (I r8.1.2.2)] [] [], Ch.ro n0 (Sl a5 r2.1 c6) r2.1] := H
      refine st (v := (B (!r29))) (rv_not rfl) ?_
      refine st (v := (B (!r29))) (rv_move rfl) ?_
      rcases Bool.eq_false_or_eq_true (!r29) with hb33 | hb33
      · replace h := bif_t hb33 h
        refine st_skip (congrArg some hb33) ?_
        refine st_skip (congrArg some hb33) ?_
        refine st_skip (congrArg some hb33) ?_
        refine st (v := (B true)) (rv_pick_t (congrArg B hb33) rfl) ?_
        refine st (v := (B true)) (rv_move rfl) ?_
        refine st_skip rfl ?_
        refine st_skip rfl ?_
        refine st_skip rfl ?_
        refine st (v := (B true)) (rv_pick_t rfl rfl) ?_
        refine w_end ?_
        obtain rfl := Option.some.inj h
        exact ⟨rfl, _, σ32, fr_join ⟨rfl, rfl, rfl, rfl, rfl, rfl, rfl, trivial⟩, rfl, H.sel' [4, 0, 3, 1, 2] rfl rfl⟩
      · replace h := bif_f hb33 h
        refine st_g (v := (B r8.2)) (congrArg some hb33) (rv_move rfl) ?_
        refine st_g (v := (B r17.2)) (congrArg some hb33) (rv_move rfl) ?_
        refine st_g (v := (B (r8.2 != r17.2))) (congrArg some hb33) (rv_bneq Try.underlying4 rfl rfl) ?_
        refine st (v := (B (r8.2 != r17.2))) (rv_pick_f (congrArg B hb33) rfl) ?_
        refine st (v := (B (r8.2 != r17.2))) (rv_move rfl) ?_
        rcases Bool.eq_false_or_eq_true (r8.2 != r17.2) with hb34 | hb34
        · replace h := bif_t hb34 h
          refine st_skip (congrArg some hb34) ?_
          refine st_skip (congrArg some hb34) ?_
          refine st_skip (congrArg some hb34) ?_
          refine st (v := (B true)) (rv_pick_t (congrArg B hb34) rfl) ?_
          refine w_end ?_
          obtain rfl := Option.some.inj h
          exact ⟨rfl, _, σ32, fr_join ⟨rfl, rfl, rfl, rfl, rfl, rfl, rfl, trivial⟩, rfl, H.sel' [4, 0, 3, 1, 2] rfl rfl⟩
        · replace h := bif_f hb34 h
          refine st_g (v := (Sl a5 r2.1 c6)) (congrArg some hb34) (rv_move rfl) ?_
          replace H := H.roLow 4 0 rfl (Nat.zero_le _)
          obtain ⟨r35, hx36, h'⟩ := bind_some h
          clear h
          have h := h'; clear h'
          have hc37 := c_impl_ValidStore (alist_0 := a5) (clist_0 := c6) hx36
          refine st_call (cx_call hc37 (ent_f hc37.fn rfl) hn0 (show Hp S0 σ0 _ ([Ch.ro 0 (Sl a5 r2.1 c6) r2.1] ++ [Ch.ro 0 (Sl a5 r2.1 c6) r2.1, Ch.own n0 n0 (Sl a11 r8.1.2.1 c12) r8.1.2.1, Ch.own n0 n0 (Sl a20 r17.1.2.1 c21) r17.1.2.1, Ch.bx n0 b23 0 [(I r17.1.1), (Sl a20 r17.1.2.1 c21), (I r17.1.2.2)] [] [], Ch.bx n0 b14 0 [(I r8.1.1), (Sl a11 r8.1.2.1 c12), (I r8.1.2.2)] [] [], Ch.ro n0 (Sl a5 r2.1 c6) r2.1]) from (H.sel' [0, 0, 1, 2, 3, 4, 5] rfl rfl))) (wanted_yes rfl (by exact (congrArg some hb34))) ?_
          rintro _ σ38 ⟨_, ⟨rfl, rfl⟩, H, -⟩
          replace H : Hp S0 σ0 σ38 [Ch.ro 0 (Sl a5 r2.1 c6) r2.1, Ch.own n0 n0 (Sl a11 r8.1.2.1 c12) r8.1.2.1, Ch.own n0 n0 (Sl a20 r17.1.2.1 c21) r17.1.2.1, Ch.bx n0 b23 0 [(I r17.1.1), (Sl a20 r17.1.2.1 c21), (I r17.1.2.2)] [] [], Ch.bx n0 b14 0 [(I r8.1.1), (Sl a11 r8.1.2.1 c12), (I r8.1.2.2)] [] [], Ch.ro n0 (Sl a5 r2.1 c6) r2.1] := H
          refine st_g (v := (B (!r35))) (congrArg some hb34) (rv_not rfl) ?_
          refine st (v := (B (!r35))) (rv_pick_f (congrArg B hb34) rfl) ?_
          refine w_end ?_
          obtain rfl := Option.some.inj h
          exact ⟨rfl, _, σ38, fr_join ⟨rfl, rfl, rfl, rfl, rfl, rfl, rfl, trivial⟩, rfl, H.sel' [5, 1, 4, 2, 3] rfl rfl⟩
    · clear hj
      have h := h'
      clear h' H
      rintro e a w ⟨rfl, ρ, σ39, rfl, rfl, H⟩
      refine q_then ?_
      refine cd_cond o26 rfl (fun hb40 => ?_) (fun hb40 => ?_)
      · replace h := bif_t hb40 h
        refine c_seq ?_
        refine rg ?_
        have hc41 := H.cells 2 rfl
        refine st (v := (.agg #[(I r8.1.1), (Sl a11 r8.1.2.1 c12), (I r8.1.2.2)])) (rv_load (cs := [(I r8.1.1), (Sl a11 r8.1.2.1 c12), (I r8.1.2.2)]) Try.underlying29 rfl ti29 rfl rfl hc41) ?_
        have hc42 := H.cells 4 rfl
        refine st (v := (.agg #[(I r17.1.1), (Sl a20 r17.1.2.1 c21), (I r17.1.2.2)])) (rv_load (cs := [(I r17.1.1), (Sl a20 r17.1.2.1 c21), (I r17.1.2.2)]) Try.underlying29 rfl ti29 rfl rfl hc42) ?_
        obtain ⟨σ43, hw44, H, -⟩ := H.pub 1 rfl (Nat.le_refl _)
        rw [← hw44]; clear hw44
        obtain ⟨σ45, hw46, H, -⟩ := H.pub 3 rfl (Nat.le_refl _)
        rw [← hw46]; clear hw46
        replace H := H.roLow 1 0 rfl (Nat.zero_le _)
        replace H := H.roLow 1 0 rfl (Nat.zero_le _)
        obtain ⟨r47, hx48, h'⟩ := bind_some h
        clear h
        have h := h'; clear h'
        have hc49 := c_laws_equalItem (aa_0_1 := a11) (ca_0_1 := c12) (ab_1_1 := a20) (cb_1_1 := c21) hx48
        refine st_call (cx_call hc49 (ent_f hc49.fn rfl) hn0 (show Hp S0 σ0 _ ([Ch.ro 0 (Sl a11 r8.1.2.1 c12) r8.1.2.1, Ch.ro 0 (Sl a20 r17.1.2.1 c21) r17.1.2.1] ++ [Ch.ro 0 (Sl a20 r17.1.2.1 c21) r17.1.2.1, Ch.ro 0 (Sl a11 r8.1.2.1 c12) r8.1.2.1, Ch.ro n0 (Sl a20 r17.1.2.1 c21) r17.1.2.1, Ch.ro n0 (Sl a11 r8.1.2.1 c12) r8.1.2.1, Ch.ro n0 (Sl a5 r2.1 c6) r2.1, Ch.bx n0 b14 0 [(I r8.1.1), (Sl a11 r8.1.2.1 c12), (I r8.1.2.2)] [] [], Ch.bx n0 b23 0 [(I r17.1.1), (Sl a20 r17.1.2.1 c21), (I r17.1.2.2)] [] []]) from (H.sel' [1, 0, 0, 1, 2, 3, 4, 5, 6] rfl rfl))) (wanted_none _ rfl _) ?_
        rintro _ σ50 ⟨_, ⟨rfl, rfl⟩, H, -⟩
        replace H : Hp S0 σ0 σ50 [Ch.ro 0 (Sl a20 r17.1.2.1 c21) r17.1.2.1, Ch.ro 0 (Sl a11 r8.1.2.1 c12) r8.1.2.1, Ch.ro n0 (Sl a20 r17.1.2.1 c21) r17.1.2.1, Ch.ro n0 (Sl a11 r8.1.2.1 c12) r8.1.2.1, Ch.ro n0 (Sl a5 r2.1 c6) r2.1, Ch.bx n0 b14 0 [(I r8.1.1), (Sl a11 r8.1.2.1 c12), (I r8.1.2.2)] [] [], Ch.bx n0 b23 0 [(I r17.1.1), (Sl a20 r17.1.2.1 c21), (I r17.1.2.2)] [] []] := H
        refine st (v := (B r47)) (rv_move rfl) ?_
        rcases Bool.eq_false_or_eq_true r47 with hb51 | hb51
        · replace h := bif_t hb51 h
          refine st_g (v := (B r8.2)) (congrArg some hb51) (rv_move rfl) ?_
          refine st_g (v := (B r17.2)) (congrArg some hb51) (rv_move rfl) ?_
          refine st_g (v := (B (r8.2 == r17.2))) (congrArg some hb51) (rv_beql Try.underlying4 rfl rfl) ?_
          refine st (v := (B (r8.2 == r17.2))) (rv_pick_t (congrArg B hb51) rfl) ?_
          refine st (v := (B (r8.2 == r17.2))) (rv_assign rfl) ?_
          refine w_end ?_
          refine q_then ?_
          refine c_ret ?_
          refine q_then_r ?_
          obtain rfl := Option.some.inj h
          exact fin_ret (v := (B (r8.2 == r17.2))) (results_ok Try.results8 (res_tmp (v := (B (r8.2 == r17.2))) rfl res_nil) rfl) ⟨rfl, rfl⟩ (H.sel' [] rfl rfl)
        · replace h := bif_f hb51 h
          refine st_skip (congrArg some hb51) ?_
          refine st_skip (congrArg some hb51) ?_
          refine st_skip (congrArg some hb51) ?_
          refine st (v := (B false)) (rv_pick_f (congrArg B hb51) rfl) ?_
          refine st (v := (B false)) (rv_assign rfl) ?_
          refine w_end ?_
          refine q_then ?_
          refine c_ret ?_
          refine q_then_r ?_
          obtain rfl := Option.some.inj h
          exact fin_ret (v := (B false)) (results_ok Try.results8 (res_tmp (v := (B false)) rfl res_nil) rfl) ⟨rfl, rfl⟩ (H.sel' [] rfl rfl)
      · replace h := bif_f hb40 h
        refine c_skip ?_
        refine q_then ?_
        refine c_seq ?_
        refine rg ?_
        refine st (v := (B false)) (rv_assign rfl) ?_
        refine w_end ?_
        refine q_then ?_
        refine c_seq ?_
        refine c_seq ?_
        refine rg ?_
        refine st (v := (I 0)) (rv_assign rfl) ?_
        refine w_end ?_
        refine q_then ?_
        obtain ⟨o52, hj, h'⟩ := bind_some h
        clear h
        refine c_cut (fun e a w => e = .normal ∧ ∃ (ρ : Nat → Value) (σ : St), a = fr 80 (updL ρ [(6, (B r8.2)), (9, (B o52))]) ∧ w = σ.w ∧ Hp S0 σ0 σ []) ?_ ?_
        · clear h'
          rename _ = some o52 => h
          refine c_blk ?_
          refine wp_loopM _ h (fun s53 a w => ∃ (ρ : Nat → Value) (σ : St), a = fr 80 (updL ρ [(3, (Sl a5 r2.1 c6)), (4, (I r2.2)), (5, (pt b14 0)), (6, (B r8.2)), (9, (B s53.1)), (10, (I s53.2))]) ∧ w = σ.w ∧ Hp S0 σ0 σ [Ch.ro n0 (Sl a5 r2.1 c6) r2.1, Ch.own n0 n0 (Sl a11 r8.1.2.1 c12) r8.1.2.1, Ch.bx n0 b14 0 [(I r8.1.1), (Sl a11 r8.1.2.1 c12), (I r8.1.2.2)] [] []]) ⟨_, σ39, fr_join ⟨rfl, rfl, rfl, rfl, rfl, rfl, trivial⟩, rfl, H.sel' [0, 1, 2] rfl rfl⟩ ?_
          clear h H
          rintro s53 a w o ⟨ρ, σ54, rfl, rfl, H⟩ h hres
          refine c_seq ?_
          refine c_seq ?_
          refine rg ?_
          refine st (v := (I s53.2)) (rv_move rfl) ?_
          refine st (v := (Sl a5 r2.1 c6)) (rv_move rfl) ?_
          refine st (v := (I (r2.1.length : Int))) (rv_len Try.underlying23 rfl) ?_
          refine st (v := (B (decide (s53.2 < (r2.1.length : Int))))) (rv_lss (a := s53.2) (b := (r2.1.length : Int)) rfl rfl) ?_
          refine w_end ?_
          refine q_then ?_
          refine cd_cond (decide (s53.2 < (r2.1.length : Int))) rfl (fun hb55 => ?_) (fun hb55 => ?_)
          · replace h := bif_t hb55 h
            refine c_skip ?_
            refine q_then ?_
            refine c_seq ?_
            refine c_blk ?_
            obtain ⟨o56, hj, h'⟩ := bind_some h
            clear h
            refine c_cut (fun e a w => e = .normal ∧ ∃ (ρ : Nat → Value) (σ : St), a = fr 80 (updL ρ [(3, (Sl a5 r2.1 c6)), (4, (I r2.2)), (5, (pt b14 0)), (6, (B r8.2)), (9, (B o56)), (10, (I s53.2))]) ∧ w = σ.w ∧ Hp S0 σ0 σ [Ch.ro n0 (Sl a5 r2.1 c6) r2.1, Ch.own n0 n0 (Sl a11 r8.1.2.1 c12) r8.1.2.1, Ch.bx n0 b14 0 [(I r8.1.1), (Sl a11 r8.1.2.1 c12), (I r8.1.2.2)] [] []]) ?_ ?_
            · clear h'
              rename _ = some o56 => h
              rcases Bool.eq_false_or_eq_true s53.1 with hb57 | hb57
              · replace h := bif_t hb57 h
                have Hs := H
                refine rg2 (σ := σ54) (Nm := Unit) 15 [] [[]] [[(0, 0)], [(0, 0)], [(0, 0)], [(0, 0)], [(0, 0)], [(0, 0)], [(0, 0)], [(0, 0)], [(0, 0)], [(0, 0)], [(0, 0)], [(0, 0)], [(0, 0)], [(0, 0)], [(0, 0)]] 0 [fun (_nm : Unit) => fun σm => Hp S0 σ0 σm [Ch.ro n0 (Sl a5 r2.1 c6) r2.1, Ch.own n0 n0 (Sl a11 r8.1.2.1 c12) r8.1.2.1, Ch.bx n0 b14 0 [(I r8.1.1), (Sl a11 r8.1.2.1 c12), (I r8.1.2.2)] [] []] ∧ Md (cov []) σ54 σm] [fun (_nm : Unit) => (B s53.1), fun (_nm : Unit) => (B s53.1), fun (_nm : Unit) => undef, fun (_nm : Unit) => undef, fun (_nm : Unit) => undef, fun (_nm : Unit) => undef, fun (_nm : Unit) => undef, fun (_nm : Unit) => undef, fun (_nm : Unit) => undef, fun (_nm : Unit) => undef, fun (_nm : Unit) => undef, fun (_nm : Unit) => undef, fun (_nm : Unit) => undef, fun (_nm : Unit) => undef, fun (_nm : Unit) => undef] () (by kernel_rfl) (by kernel_rfl) ?_ ?_ ?_
                · intro σm m0
                  exact ⟨H.grow (m0.mono fun _ h => h.elim), m0⟩
                · refine all_cons (obs_v rfl (by
                      intro k; intro _nm ρ σm hJ hoff hdep
                      have e9 : look 80 ρ 9 = (B s53.1) := look_off (hoff 9 rfl) rfl
                      exact dp_v (v := (B s53.1)) (wanted_none _ rfl _) (rv_move e9) rfl hJ)) ?_
                  refine all_cons (obs_v rfl (by
                      intro k; intro _nm ρ σm hJ hoff hdep
                      have e59 : look 80 ρ 59 = (B s53.1) := hdep 0 rfl rfl 59 rfl
                      exact dp_v (v := (B s53.1)) (wanted_none _ rfl _) (rv_move e59) rfl hJ)) ?_
                  refine all_cons (obs_v rfl (by
                      intro k; intro _nm ρ σm hJ hoff hdep
                      have e60 : look 80 ρ 60 = (B s53.1) := hdep 1 rfl rfl 60 rfl
                      exact dp_skip (wanted_no rfl (yv_of rfl (e60.trans (congrArg B hb57)))) rfl hJ)) ?_
                  refine all_cons (obs_v rfl (by
                      intro k; intro _nm ρ σm hJ hoff hdep
                      have e60 : look 80 ρ 60 = (B s53.1) := hdep 1 rfl rfl 60 rfl
                      exact dp_skip (wanted_no rfl (yv_of rfl (e60.trans (congrArg B hb57)))) rfl hJ)) ?_
                  refine all_cons (obs_v rfl (by
                      intro k; intro _nm ρ σm hJ hoff hdep
                      have e60 : look 80 ρ 60 = (B s53.1) := hdep 1 rfl rfl 60 rfl
                      exact dp_skip (wanted_no rfl (yv_of rfl (e60.trans (congrArg B hb57)))) rfl hJ)) ?_
                  refine all_cons (obs_v rfl (by
                      intro k; intro _nm ρ σm hJ hoff hdep
                      have e60 : look 80 ρ 60 = (B s53.1) := hdep 1 rfl rfl 60 rfl
                      exact dp_skip (wanted_no rfl (yv_of rfl (e60.trans (congrArg B hb57)))) rfl hJ)) ?_
                  refine all_cons (obs_v rfl (by
                      intro k; intro _nm ρ σm hJ hoff hdep
                      have e60 : look 80 ρ 60 = (B s53.1) := hdep 1 rfl rfl 60 rfl
                      exact dp_skip (wanted_no rfl (yv_of rfl (e60.trans (congrArg B hb57)))) rfl hJ)) ?_
                  refine all_cons (obs_v rfl (by
                      intro k; intro _nm ρ σm hJ hoff hdep
                      have e60 : look 80 ρ 60 = (B s53.1) := hdep 1 rfl rfl 60 rfl
                      exact dp_skip (wanted_no rfl (yv_of rfl (e60.trans (congrArg B hb57)))) rfl hJ)) ?_
                  refine all_cons (obs_v rfl (by
                      intro k; intro _nm ρ σm hJ hoff hdep
                      have e60 : look 80 ρ 60 = (B s53.1) := hdep 1 rfl rfl 60 rfl
                      exact dp_skip (wanted_no rfl (yv_of rfl (e60.trans (congrArg B hb57)))) rfl hJ)) ?_
                  refine all_cons (obs_v rfl (by
                      intro k; intro _nm ρ σm hJ hoff hdep
                      have e60 : look 80 ρ 60 = (B s53.1) := hdep 1 rfl rfl 60 rfl
                      exact dp_skip (wanted_no rfl (yv_of rfl (e60.trans (congrArg B hb57)))) rfl hJ)) ?_
                  refine all_cons (obs_v rfl (by
                      intro k; intro _nm ρ σm hJ hoff hdep
                      have e68 : look 80 ρ 68 = undef := hdep 9 rfl rfl 68 rfl
                      exact dp_skip (wanted_u rfl (yv_undef rfl e68)) rfl hJ)) ?_
                  refine all_cons (obs_v rfl (by
                      intro k; intro _nm ρ σm hJ hoff hdep
                      have e68 : look 80 ρ 68 = undef := hdep 9 rfl rfl 68 rfl
                      exact dp_skip (wanted_u rfl (yv_undef rfl e68)) rfl hJ)) ?_
                  refine all_cons (obs_v rfl (by
                      intro k; intro _nm ρ σm hJ hoff hdep
                      have e68 : look 80 ρ 68 = undef := hdep 9 rfl rfl 68 rfl
                      exact dp_skip (wanted_u rfl (yv_undef rfl e68)) rfl hJ)) ?_
                  refine all_cons (obs_v rfl (by
                      intro k; intro _nm ρ σm hJ hoff hdep
                      have e68 : look 80 ρ 68 = undef := hdep 9 rfl rfl 68 rfl
                      exact dp_skip (wanted_u rfl (yv_undef rfl e68)) rfl hJ)) ?_
                  refine all_cons (obs_v rfl (by
                      intro k; intro _nm ρ σm hJ hoff hdep
                      have e68 : look 80 ρ 68 = undef := hdep 9 rfl rfl 68 rfl
                      exact dp_skip (wanted_u rfl (yv_undef rfl e68)) rfl hJ)) ?_
                  exact all_nil
                · intro _nm ρ σ58 hJ hoff hrel
                  have e3 : look 80 ρ 3 = (Sl a5 r2.1 c6) := look_off (hoff 3 rfl) rfl
                  have e4 : look 80 ρ 4 = (I r2.2) := look_off (hoff 4 rfl) rfl
                  have e5 : look 80 ρ 5 = (pt b14 0) := look_off (hoff 5 rfl) rfl
                  have e6 : look 80 ρ 6 = (B r8.2) := look_off (hoff 6 rfl) rfl
                  have e10 : look 80 ρ 10 = (I s53.2) := look_off (hoff 10 rfl) rfl
                  have e60 : look 80 ρ 60 = (B s53.1) := hrel 1 rfl 60 rfl
                  have e68 : look 80 ρ 68 = undef := hrel 9 rfl 68 rfl
                  have e72 : look 80 ρ 72 = undef := hrel 13 rfl 72 rfl
                  have e73 : look 80 ρ 73 = undef := hrel 14 rfl 73 rfl
                  obtain ⟨H, -⟩ := (show Hp S0 σ0 σ58 [Ch.ro n0 (Sl a5 r2.1 c6) r2.1, Ch.own n0 n0 (Sl a11 r8.1.2.1 c12) r8.1.2.1, Ch.bx n0 b14 0 [(I r8.1.1), (Sl a11 r8.1.2.1 c12), (I r8.1.2.2)] [] []] ∧ Md (cov []) σ54 σ58 from hJ)
                  clear hJ Hs
                  rw [fr_lookL (L := [(3, (Sl a5 r2.1 c6)), (4, (I r2.2)), (5, (pt b14 0)), (6, (B r8.2)), (10, (I s53.2)), (60, (B s53.1)), (68, undef), (72, undef), (73, undef)]) ⟨e3, e4, e5, e6, e10, e60, e68, e72, e73, trivial⟩]
                  clear hoff hrel e3 e4 e5 e6 e10 e60 e68 e72 e73
                  refine st_skip_u rfl ?_
                  refine st_skip (congrArg some hb57) ?_
                  refine st (v := (B true)) (rv_pick_t (congrArg B hb57) rfl) ?_
                  refine st (v := (B true)) (rv_assign rfl) ?_
                  refine w_end ?_
                  obtain rfl := Option.some.inj h
                  exact ⟨rfl, _, σ58, fr_join ⟨rfl, rfl, rfl, rfl, rfl, rfl, trivial⟩, rfl, H.sel' [0, 1, 2] rfl rfl⟩
              · replace h := bif_f hb57 h
                obtain ⟨x59, hx60, h'⟩ := bind_some h
                clear h
                have h := h'; clear h'
                obtain ⟨b62, o63, hi61, -⟩ := (H.ro 0 rfl).ix hx60
                have hc64 := ((H.ro 0 rfl).at hx60 hi61).fst.int
                rcases Bool.eq_false_or_eq_true (x59.1 == r2.2) with hb65 | hb65
                · replace h := bif_t hb65 h
                  obtain ⟨x66, hx67, h'⟩ := bind_some h
                  clear h
                  have h := h'; clear h'
                  obtain ⟨b69, o70, hi68, -⟩ := (H.ro 0 rfl).ix hx67
                  obtain ⟨_, ⟨_, _, rfl, rfl, ⟨_, _, rfl, ⟨_, rfl, hR75⟩, rfl⟩⟩, hl71, hc72⟩ := ((H.ro 0 rfl).at hx67 hi68).cells
                  obtain ⟨a73, c74, rfl⟩ := hR75.isSl
                  replace H := H.add (d := Ch.ro n0 (Sl a73 x66.2.1 c74) x66.2.1) hR75 (fun _ h => h)
                  clear hR75
                  have hc76 := H.cells 3 rfl
                  have Hs := H
                  refine rg2 (σ := σ54) (Nm := Unit) 15 [] [[]] [[(0, 0)], [(0, 0)], [(0, 0)], [(0, 0)], [(0, 0)], [(0, 0)], [(0, 0)], [(0, 0)], [(0, 0)], [(0, 0)], [(0, 0)], [(0, 0)], [(0, 0)], [(0, 0)], [(0, 0)]] 0 [fun (_nm : Unit) => fun σm => Hp S0 σ0 σm [Ch.ro n0 (Sl a73 x66.2.1 c74) x66.2.1, Ch.ro n0 (Sl a5 r2.1 c6) r2.1, Ch.own n0 n0 (Sl a11 r8.1.2.1 c12) r8.1.2.1, Ch.bx n0 b14 0 [(I r8.1.1), (Sl a11 r8.1.2.1 c12), (I r8.1.2.2)] [] []] ∧ Md (cov []) σ54 σm] [fun (_nm : Unit) => (B s53.1), fun (_nm : Unit) => (B s53.1), fun (_nm : Unit) => (Sl a5 r2.1 c6), fun (_nm : Unit) => (I s53.2), fun (_nm : Unit) => (pt b62 o63), fun (_nm : Unit) => (pt b62 (o63 + 0)), fun (_nm : Unit) => (I x59.1), fun (_nm : Unit) => (I r2.2), fun (_nm : Unit) => (B (x59.1 == r2.2)), fun (_nm : Unit) => (B (x59.1 == r2.2)), fun (_nm : Unit) => (Sl a5 r2.1 c6), fun (_nm : Unit) => (I s53.2), fun (_nm : Unit) => (pt b69 o70), fun (_nm : Unit) => (.agg #[(I x66.1), (Sl a73 x66.2.1 c74), (I x66.2.2)]), fun (_nm : Unit) => (.agg #[(I r8.1.1), (Sl a11 r8.1.2.1 c12), (I r8.1.2.2)])] () (by kernel_rfl) (by kernel_rfl) ?_ ?_ ?_
                  · intro σm m0
                    exact ⟨H.grow (m0.mono fun _ h => h.elim), m0⟩
                  · refine all_cons (obs_v rfl (by
                        intro k; intro _nm ρ σm hJ hoff hdep
                        have e9 : look 80 ρ 9 = (B s53.1) := look_off (hoff 9 rfl) rfl
                        exact dp_v (v := (B s53.1)) (wanted_none _ rfl _) (rv_move e9) rfl hJ)) ?_
                    refine all_cons (obs_v rfl (by
                        intro k; intro _nm ρ σm hJ hoff hdep
                        have e59 : look 80 ρ 59 = (B s53.1) := hdep 0 rfl rfl 59 rfl
                        exact dp_v (v := (B s53.1)) (wanted_none _ rfl _) (rv_move e59) rfl hJ)) ?_
                    refine all_cons (obs_v rfl (by
                        intro k; intro _nm ρ σm hJ hoff hdep
                        have e3 : look 80 ρ 3 = (Sl a5 r2.1 c6) := look_off (hoff 3 rfl) rfl
                        have e60 : look 80 ρ 60 = (B s53.1) := hdep 1 rfl rfl 60 rfl
                        exact dp_v (v := (Sl a5 r2.1 c6)) (wanted_yes rfl (yv_of rfl (e60.trans (congrArg B hb57)))) (rv_move e3) rfl hJ)) ?_
                    refine all_cons (obs_v rfl (by
                        intro k; intro _nm ρ σm hJ hoff hdep
                        have e10 : look 80 ρ 10 = (I s53.2) := look_off (hoff 10 rfl) rfl
                        have e60 : look 80 ρ 60 = (B s53.1) := hdep 1 rfl rfl 60 rfl
                        exact dp_v (v := (I s53.2)) (wanted_yes rfl (yv_of rfl (e60.trans (congrArg B hb57)))) (rv_move e10) rfl hJ)) ?_
                    refine all_cons (obs_v rfl (by
                        intro k; intro _nm ρ σm hJ hoff hdep
                        have e61 : look 80 ρ 61 = (Sl a5 r2.1 c6) := hdep 2 rfl rfl 61 rfl
                        have e62 : look 80 ρ 62 = (I s53.2) := hdep 3 rfl rfl 62 rfl
                        have e60 : look 80 ρ 60 = (B s53.1) := hdep 1 rfl rfl 60 rfl
                        exact dp_v (v := (pt b62 o63)) (wanted_yes rfl (yv_of rfl (e60.trans (congrArg B hb57)))) (rv_ix Try.underlying23 ti29 e61 e62 hi61) rfl hJ)) ?_
                    refine all_cons (obs_v rfl (by
                        intro k; intro _nm ρ σm hJ hoff hdep
                        have e63 : look 80 ρ 63 = (pt b62 o63) := hdep 4 rfl rfl 63 rfl
                        have e60 : look 80 ρ 60 = (B s53.1) := hdep 1 rfl rfl 60 rfl
                        exact dp_v (v := (pt b62 (o63 + 0))) (wanted_yes rfl (yv_of rfl (e60.trans (congrArg B hb57)))) (rv_fieldAddr (off := 0) (ft := 3) Try.underlying29 rfl ti3 rfl e63) rfl hJ)) ?_
                    refine all_cons (by
                        refine ⟨?_, ?_⟩
                        · intro _nm ρ σm hJ hoff hdep
                          have e64 : look 80 ρ 64 = (pt b62 (o63 + 0)) := hdep 5 rfl rfl 64 rfl
                          have e60 : look 80 ρ 60 = (B s53.1) := hdep 1 rfl rfl 60 rfl
                          obtain ⟨H, m⟩ := (show Hp S0 σ0 σm [Ch.ro n0 (Sl a73 x66.2.1 c74) x66.2.1, Ch.ro n0 (Sl a5 r2.1 c6) r2.1, Ch.own n0 n0 (Sl a11 r8.1.2.1 c12) r8.1.2.1, Ch.bx n0 b14 0 [(I r8.1.1), (Sl a11 r8.1.2.1 c12), (I r8.1.2.2)] [] []] ∧ Md (cov []) σ54 σm from hJ)
                          replace hc64 := (Hs.ro 1 rfl).hmd hx60 hi61 (k := 0) (by decide) hc64 m
                          exact dp_v (v := (I x59.1)) (wanted_yes rfl (yv_of rfl (e60.trans (congrArg B hb57)))) (rv_load1 Try.underlying3 rfl e64 hc64) rfl hJ
                        trivial) ?_
                    refine all_cons (obs_v rfl (by
                        intro k; intro _nm ρ σm hJ hoff hdep
                        have e4 : look 80 ρ 4 = (I r2.2) := look_off (hoff 4 rfl) rfl
                        have e60 : look 80 ρ 60 = (B s53.1) := hdep 1 rfl rfl 60 rfl
                        exact dp_v (v := (I r2.2)) (wanted_yes rfl (yv_of rfl (e60.trans (congrArg B hb57)))) (rv_move e4) rfl hJ)) ?_
                    refine all_cons (obs_v rfl (by
                        intro k; intro _nm ρ σm hJ hoff hdep
                        have e65 : look 80 ρ 65 = (I x59.1) := hdep 6 rfl rfl 65 rfl
                        have e66 : look 80 ρ 66 = (I r2.2) := hdep 7 rfl rfl 66 rfl
                        have e60 : look 80 ρ 60 = (B s53.1) := hdep 1 rfl rfl 60 rfl
                        exact dp_v (v := (B (x59.1 == r2.2))) (wanted_yes rfl (yv_of rfl (e60.trans (congrArg B hb57)))) (rv_eql (a := x59.1) (b := r2.2) e65 e66) rfl hJ)) ?_
                    refine all_cons (obs_v rfl (by
                        intro k; intro _nm ρ σm hJ hoff hdep
                        have e67 : look 80 ρ 67 = (B (x59.1 == r2.2)) := hdep 8 rfl rfl 67 rfl
                        have e60 : look 80 ρ 60 = (B s53.1) := hdep 1 rfl rfl 60 rfl
                        exact dp_v (v := (B (x59.1 == r2.2))) (wanted_yes rfl (yv_of rfl (e60.trans (congrArg B hb57)))) (rv_move e67) rfl hJ)) ?_
                    refine all_cons (obs_v rfl (by
                        intro k; intro _nm ρ σm hJ hoff hdep
                        have e3 : look 80 ρ 3 = (Sl a5 r2.1 c6) := look_off (hoff 3 rfl) rfl
                        have e68 : look 80 ρ 68 = (B (x59.1 == r2.2)) := hdep 9 rfl rfl 68 rfl
                        exact dp_v (v := (Sl a5 r2.1 c6)) (wanted_yes rfl (yv_of rfl (e68.trans (congrArg B hb65)))) (rv_move e3) rfl hJ)) ?_
                    refine all_cons (obs_v rfl (by
                        intro k; intro _nm ρ σm hJ hoff hdep
                        have e10 : look 80 ρ 10 = (I s53.2) := look_off (hoff 10 rfl) rfl
                        have e68 : look 80 ρ 68 = (B (x59.1 == r2.2)) := hdep 9 rfl rfl 68 rfl
                        exact dp_v (v := (I s53.2)) (wanted_yes rfl (yv_of rfl (e68.trans (congrArg B hb65)))) (rv_move e10) rfl hJ)) ?_
                    refine all_cons (obs_v rfl (by
                        intro k; intro _nm ρ σm hJ hoff hdep
                        have e69 : look 80 ρ 69 = (Sl a5 r2.1 c6) := hdep 10 rfl rfl 69 rfl
                        have e70 : look 80 ρ 70 = (I s53.2) := hdep 11 rfl rfl 70 rfl
                        have e68 : look 80 ρ 68 = (B (x59.1 == r2.2)) := hdep 9 rfl rfl 68 rfl
                        exact dp_v (v := (pt b69 o70)) (wanted_yes rfl (yv_of rfl (e68.trans (congrArg B hb65)))) (rv_ix Try.underlying23 ti29 e69 e70 hi68) rfl hJ)) ?_
                    refine all_cons (by
                        refine ⟨?_, ?_⟩
                        · intro _nm ρ σm hJ hoff hdep
                          have e71 : look 80 ρ 71 = (pt b69 o70) := hdep 12 rfl rfl 71 rfl
                          have e68 : look 80 ρ 68 = (B (x59.1 == r2.2)) := hdep 9 rfl rfl 68 rfl
                          obtain ⟨H, m⟩ := (show Hp S0 σ0 σm [Ch.ro n0 (Sl a73 x66.2.1 c74) x66.2.1, Ch.ro n0 (Sl a5 r2.1 c6) r2.1, Ch.own n0 n0 (Sl a11 r8.1.2.1 c12) r8.1.2.1, Ch.bx n0 b14 0 [(I r8.1.1), (Sl a11 r8.1.2.1 c12), (I r8.1.2.2)] [] []] ∧ Md (cov []) σ54 σm from hJ)
                          replace hc72 := fun j hj => (Hs.ro 1 rfl).hmd hx67 hi68 (k := j) (Nat.lt_of_lt_of_eq hj hl71) (hc72 j hj) m
                          exact dp_v (v := (.agg #[(I x66.1), (Sl a73 x66.2.1 c74), (I x66.2.2)])) (wanted_yes rfl (yv_of rfl (e68.trans (congrArg B hb65)))) (rv_load Try.underlying29 rfl ti29 e71 hl71 hc72) rfl hJ
                        trivial) ?_
                    refine all_cons (by
                        refine ⟨?_, ?_⟩
                        · intro _nm ρ σm hJ hoff hdep
                          have e5 : look 80 ρ 5 = (pt b14 0) := look_off (hoff 5 rfl) rfl
                          have e68 : look 80 ρ 68 = (B (x59.1 == r2.2)) := hdep 9 rfl rfl 68 rfl
                          obtain ⟨H, m⟩ := (show Hp S0 σ0 σm [Ch.ro n0 (Sl a73 x66.2.1 c74) x66.2.1, Ch.ro n0 (Sl a5 r2.1 c6) r2.1, Ch.own n0 n0 (Sl a11 r8.1.2.1 c12) r8.1.2.1, Ch.bx n0 b14 0 [(I r8.1.1), (Sl a11 r8.1.2.1 c12), (I r8.1.2.2)] [] []] ∧ Md (cov []) σ54 σm from hJ)
                          have hc76 := H.cells 3 rfl
                          exact dp_v (v := (.agg #[(I r8.1.1), (Sl a11 r8.1.2.1 c12), (I r8.1.2.2)])) (wanted_yes rfl (yv_of rfl (e68.trans (congrArg B hb65)))) (rv_load (cs := [(I r8.1.1), (Sl a11 r8.1.2.1 c12), (I r8.1.2.2)]) Try.underlying29 rfl ti29 e5 rfl hc76) rfl hJ
                        trivial) ?_
                    exact all_nil
                  · intro _nm ρ σ77 hJ hoff hrel
                    have e3 : look 80 ρ 3 = (Sl a5 r2.1 c6) := look_off (hoff 3 rfl) rfl
                    have e4 : look 80 ρ 4 = (I r2.2) := look_off (hoff 4 rfl) rfl
                    have e5 : look 80 ρ 5 = (pt b14 0) := look_off (hoff 5 rfl) rfl
                    have e6 : look 80 ρ 6 = (B r8.2) := look_off (hoff 6 rfl) rfl
                    have e10 : look 80 ρ 10 = (I s53.2) := look_off (hoff 10 rfl) rfl
                    have e60 : look 80 ρ 60 = (B s53.1) := hrel 1 rfl 60 rfl
                    have e68 : look 80 ρ 68 = (B (x59.1 == r2.2)) := hrel 9 rfl 68 rfl
                    have e72 : look 80 ρ 72 = (.agg #[(I x66.1), (Sl a73 x66.2.1 c74), (I x66.2.2)]) := hrel 13 rfl 72 rfl
                    have e73 : look 80 ρ 73 = (.agg #[(I r8.1.1), (Sl a11 r8.1.2.1 c12), (I r8.1.2.2)]) := hrel 14 rfl 73 rfl
                    obtain ⟨H, -⟩ := (show Hp S0 σ0 σ77 [Ch.ro n0 (Sl a73 x66.2.1 c74) x66.2.1, Ch.ro n0 (Sl a5 r2.1 c6) r2.1, Ch.own n0 n0 (Sl a11 r8.1.2.1 c12) r8.1.2.1, Ch.bx n0 b14 0 [(I r8.1.1), (Sl a11 r8.1.2.1 c12), (I r8.1.2.2)] [] []] ∧ Md (cov []) σ54 σ77 from hJ)
                    clear hJ Hs
                    rw [fr_lookL (L := [(3, (Sl a5 r2.1 c6)), (4, (I r2.2)), (5, (pt b14 0)), (6, (B r8.2)), (10, (I s53.2)), (60, (B s53.1)), (68, (B (x59.1 == r2.2))), (72, (.agg #[(I x66.1), (Sl a73 x66.2.1 c74), (I x66.2.2)])), (73, (.agg #[(I r8.1.1), (Sl a11 r8.1.2.1 c12), (I r8.1.2.2)]))]) ⟨e3, e4, e5, e6, e10, e60, e68, e72, e73, trivial⟩]
                    clear hoff hrel e3 e4 e5 e6 e10 e60 e68 e72 e73
                    replace H := H.roLow 0 0 rfl (Nat.zero_le _)
                    obtain ⟨r78, hx79, h'⟩ := bind_some h
                    clear h
                    have h := h'; clear h'
                    have hc80 := c_laws_equalItem (aa_0_1 := a73) (ca_0_1 := c74) (ab_1_1 := a11) (cb_1_1 := c12) hx79
                    have hle := Nat.le_trans hn0 H.size
                    refine st_call (cx_lend (Loan.same (Loan.lend Loan.nil)) hc80 (ent_f hc80.fn rfl) (show Hp S0 σ0 _ ([Ch.own n0 n0 (Sl a11 r8.1.2.1 c12) r8.1.2.1] ++ ([Ch.ro 0 (Sl a73 x66.2.1 c74) x66.2.1] ++ [Ch.ro 0 (Sl a73 x66.2.1 c74) x66.2.1, Ch.ro n0 (Sl a73 x66.2.1 c74) x66.2.1, Ch.ro n0 (Sl a5 r2.1 c6) r2.1, Ch.bx n0 b14 0 [(I r8.1.1), (Sl a11 r8.1.2.1 c12), (I r8.1.2.2)] [] []])) from (H.sel' [3, 0, 0, 1, 2, 4] rfl rfl)) (by rintro _ _ _ ⟨rfl, rfl⟩; exact trivial)) (wanted_yes rfl (by exact (congrArg some hb65))) ?_
                    rintro _ σ81 ⟨_, ⟨rfl, rfl⟩, H, -, -⟩
                    replace H : Hp S0 σ0 σ81 [Ch.own n0 n0 (Sl a11 r8.1.2.1 c12) r8.1.2.1, Ch.ro 0 (Sl a73 x66.2.1 c74) x66.2.1, Ch.ro n0 (Sl a73 x66.2.1 c74) x66.2.1, Ch.ro n0 (Sl a5 r2.1 c6) r2.1, Ch.bx n0 b14 0 [(I r8.1.1), (Sl a11 r8.1.2.1 c12), (I r8.1.2.2)] [] []] := H
                    clear hle
                    replace H : Hp S0 σ0 σ81 [Ch.own n0 n0 (Sl a11 r8.1.2.1 c12) r8.1.2.1, Ch.ro 0 (Sl a73 x66.2.1 c74) x66.2.1, Ch.ro n0 (Sl a73 x66.2.1 c74) x66.2.1, Ch.ro n0 (Sl a5 r2.1 c6) r2.1, Ch.bx n0 b14 0 [(I r8.1.1), (Sl a11 r8.1.2.1 c12), (I r8.1.2.2)] [] []] := H
                    refine st_g (v := (B r78)) (congrArg some hb57) (rv_pick_t (congrArg B hb65) rfl) ?_
                    refine st (v := (B r78)) (rv_pick_f (congrArg B hb57) rfl) ?_
                    refine st (v := (B r78)) (rv_assign rfl) ?_
                    refine w_end ?_
                    obtain rfl := Option.some.inj h
                    exact ⟨rfl, _, σ81, fr_join ⟨rfl, rfl, rfl, rfl, rfl, rfl, trivial⟩, rfl, H.sel' [3, 0, 4] rfl rfl⟩
                · replace h := bif_f hb65 h
                  have Hs := H
                  refine rg2 (σ := σ54) (Nm := Unit) 15 [] [[]] [[(0, 0)], [(0, 0)], [(0, 0)], [(0, 0)], [(0, 0)], [(0, 0)], [(0, 0)], [(0, 0)], [(0, 0)], [(0, 0)], [(0, 0)], [(0, 0)], [(0, 0)], [(0, 0)], [(0, 0)]] 0 [fun (_nm : Unit) => fun σm => Hp S0 σ0 σm [Ch.ro n0 (Sl a5 r2.1 c6) r2.1, Ch.own n0 n0 (Sl a11 r8.1.2.1 c12) r8.1.2.1, Ch.bx n0 b14 0 [(I r8.1.1), (Sl a11 r8.1.2.1 c12), (I r8.1.2.2)] [] []] ∧ Md (cov []) σ54 σm] [fun (_nm : Unit) => (B s53.1), fun (_nm : Unit) => (B s53.1), fun (_nm : Unit) => (Sl a5 r2.1 c6), fun (_nm : Unit) => (I s53.2), fun (_nm : Unit) => (pt b62 o63), fun (_nm : Unit) => (pt b62 (o63 + 0)), fun (_nm : Unit) => (I x59.1), fun (_nm : Unit) => (I r2.2), fun (_nm : Unit) => (B (x59.1 == r2.2)), fun (_nm : Unit) => (B (x59.1 == r2.2)), fun (_nm : Unit) => undef, fun (_nm : Unit) => undef, fun (_nm : Unit) => undef, fun (_nm : Unit) => undef, fun (_nm : Unit) => undef] () (by kernel_rfl) (by kernel_rfl) ?_ ?_ ?_
                  · intro σm m0
                    exact ⟨H.grow (m0.mono fun _ h => h.elim), m0⟩
                  · refine all_cons (obs_v rfl (by
                        intro k; intro _nm ρ σm hJ hoff hdep
                        have e9 : look 80 ρ 9 = (B s53.1) := look_off (hoff 9 rfl) rfl
                        exact dp_v (v := (B s53.1)) (wanted_none _ rfl _) (rv_move e9) rfl hJ)) ?_
                    refine all_cons (obs_v rfl (by
                        intro k; intro _nm ρ σm hJ hoff hdep
                        have e59 : look 80 ρ 59 = (B s53.1) := hdep 0 rfl rfl 59 rfl
                        exact dp_v (v := (B s53.1)) (wanted_none _ rfl _) (rv_move e59) rfl hJ)) ?_
                    refine all_cons (obs_v rfl (by
                        intro k; intro _nm ρ σm hJ hoff hdep
                        have e3 : look 80 ρ 3 = (Sl a5 r2.1 c6) := look_off (hoff 3 rfl) rfl
                        have e60 : look 80 ρ 60 = (B s53.1) := hdep 1 rfl rfl 60 rfl
                        exact dp_v (v := (Sl a5 r2.1 c6)) (wanted_yes rfl (yv_of rfl (e60.trans (congrArg B hb57)))) (rv_move e3) rfl hJ)) ?_
                    refine all_cons (obs_v rfl (by
                        intro k; intro _nm ρ σm hJ hoff hdep
                        have e10 : look 80 ρ 10 = (I s53.2) := look_off (hoff 10 rfl) rfl
                        have e60 : look 80 ρ 60 = (B s53.1) := hdep 1 rfl rfl 60 rfl
                        exact dp_v (v := (I s53.2)) (wanted_yes rfl (yv_of rfl (e60.trans (congrArg B hb57)))) (rv_move e10) rfl hJ)) ?_
                    refine all_cons (obs_v rfl (by
                        intro k; intro _nm ρ σm hJ hoff hdep
                        have e61 : look 80 ρ 61 = (Sl a5 r2.1 c6) := hdep 2 rfl rfl 61 rfl
                        have e62 : look 80 ρ 62 = (I s53.2) := hdep 3 rfl rfl 62 rfl
                        have e60 : look 80 ρ 60 = (B s53.1) := hdep 1 rfl rfl 60 rfl
                        exact dp_v (v := (pt b62 o63)) (wanted_yes rfl (yv_of rfl (e60.trans (congrArg B hb57)))) (rv_ix Try.underlying23 ti29 e61 e62 hi61) rfl hJ)) ?_
                    refine all_cons (obs_v rfl (by
                        intro k; intro _nm ρ σm hJ hoff hdep
                        have e63 : look 80 ρ 63 = (pt b62 o63) := hdep 4 rfl rfl 63 rfl
                        have e60 : look 80 ρ 60 = (B s53.1) := hdep 1 rfl rfl 60 rfl
                        exact dp_v (v := (pt b62 (o63 + 0))) (wanted_yes rfl (yv_of rfl (e60.trans (congrArg B hb57)))) (rv_fieldAddr (off := 0) (ft := 3) Try.underlying29 rfl ti3 rfl e63) rfl hJ)) ?_
                    refine all_cons (by
                        refine ⟨?_, ?_⟩
                        · intro _nm ρ σm hJ hoff hdep
                          have e64 : look 80 ρ 64 = (pt b62 (o63 + 0)) := hdep 5 rfl rfl 64 rfl
                          have e60 : look 80 ρ 60 = (B s53.1) := hdep 1 rfl rfl 60 rfl
                          obtain ⟨H, m⟩ := (show Hp S0 σ0 σm [Ch.ro n0 (Sl a5 r2.1 c6) r2.1, Ch.own n0 n0 (Sl a11 r8.1.2.1 c12) r8.1.2.1, Ch.bx n0 b14 0 [(I r8.1.1), (Sl a11 r8.1.2.1 c12), (I r8.1.2.2)] [] []] ∧ Md (cov []) σ54 σm from hJ)
                          replace hc64 := (Hs.ro 0 rfl).hmd hx60 hi61 (k := 0) (by decide) hc64 m
                          exact dp_v (v := (I x59.1)) (wanted_yes rfl (yv_of rfl (e60.trans (congrArg B hb57)))) (rv_load1 Try.underlying3 rfl e64 hc64) rfl hJ
                        trivial) ?_
                    refine all_cons (obs_v rfl (by
                        intro k; intro _nm ρ σm hJ hoff hdep
                        have e4 : look 80 ρ 4 = (I r2.2) := look_off (hoff 4 rfl) rfl
                        have e60 : look 80 ρ 60 = (B s53.1) := hdep 1 rfl rfl 60 rfl
                        exact dp_v (v := (I r2.2)) (wanted_yes rfl (yv_of rfl (e60.trans (congrArg B hb57)))) (rv_move e4) rfl hJ)) ?_
                    refine all_cons (obs_v rfl (by
                        intro k; intro _nm ρ σm hJ hoff hdep
                        have e65 : look 80 ρ 65 = (I x59.1) := hdep 6 rfl rfl 65 rfl
                        have e66 : look 80 ρ 66 = (I r2.2) := hdep 7 rfl rfl 66 rfl
                        have e60 : look 80 ρ 60 = (B s53.1) := hdep 1 rfl rfl 60 rfl
                        exact dp_v (v := (B (x59.1 == r2.2))) (wanted_yes rfl (yv_of rfl (e60.trans (congrArg B hb57)))) (rv_eql (a := x59.1) (b := r2.2) e65 e66) rfl hJ)) ?_
                    refine all_cons (obs_v rfl (by
                        intro k; intro _nm ρ σm hJ hoff hdep
                        have e67 : look 80 ρ 67 = (B (x59.1 == r2.2)) := hdep 8 rfl rfl 67 rfl
                        have e60 : look 80 ρ 60 = (B s53.1) := hdep 1 rfl rfl 60 rfl
                        exact dp_v (v := (B (x59.1 == r2.2))) (wanted_yes rfl (yv_of rfl (e60.trans (congrArg B hb57)))) (rv_move e67) rfl hJ)) ?_
                    refine all_cons (obs_v rfl (by
                        intro k; intro _nm ρ σm hJ hoff hdep
                        have e68 : look 80 ρ 68 = (B (x59.1 == r2.2)) := hdep 9 rfl rfl 68 rfl
                        exact dp_skip (wanted_no rfl (yv_of rfl (e68.trans (congrArg B hb65)))) rfl hJ)) ?_
                    refine all_cons (obs_v rfl (by
                        intro k; intro _nm ρ σm hJ hoff hdep
                        have e68 : look 80 ρ 68 = (B (x59.1 == r2.2)) := hdep 9 rfl rfl 68 rfl
                        exact dp_skip (wanted_no rfl (yv_of rfl (e68.trans (congrArg B hb65)))) rfl hJ)) ?_
                    refine all_cons (obs_v rfl (by
                        intro k; intro _nm ρ σm hJ hoff hdep
                        have e68 : look 80 ρ 68 = (B (x59.1 == r2.2)) := hdep 9 rfl rfl 68 rfl
                        exact dp_skip (wanted_no rfl (yv_of rfl (e68.trans (congrArg B hb65)))) rfl hJ)) ?_
                    refine all_cons (obs_v rfl (by
                        intro k; intro _nm ρ σm hJ hoff hdep
                        have e68 : look 80 ρ 68 = (B (x59.1 == r2.2)) := hdep 9 rfl rfl 68 rfl
                        exact dp_skip (wanted_no rfl (yv_of rfl (e68.trans (congrArg B hb65)))) rfl hJ)) ?_
                    refine all_cons (obs_v rfl (by
                        intro k; intro _nm ρ σm hJ hoff hdep
                        have e68 : look 80 ρ 68 = (B (x59.1 == r2.2)) := hdep 9 rfl rfl 68 rfl
                        exact dp_skip (wanted_no rfl (yv_of rfl (e68.trans (congrArg B hb65)))) rfl hJ)) ?_
                    exact all_nil
                  · intro _nm ρ σ82 hJ hoff hrel
                    have e3 : look 80 ρ 3 = (Sl a5 r2.1 c6) := look_off (hoff 3 rfl) rfl
                    have e4 : look 80 ρ 4 = (I r2.2) := look_off (hoff 4 rfl) rfl
                    have e5 : look 80 ρ 5 = (pt b14 0) := look_off (hoff 5 rfl) rfl
                    have e6 : look 80 ρ 6 = (B r8.2) := look_off (hoff 6 rfl) rfl
                    have e10 : look 80 ρ 10 = (I s53.2) := look_off (hoff 10 rfl) rfl
                    have e60 : look 80 ρ 60 = (B s53.1) := hrel 1 rfl 60 rfl
                    have e68 : look 80 ρ 68 = (B (x59.1 == r2.2)) := hrel 9 rfl 68 rfl
                    have e72 : look 80 ρ 72 = undef := hrel 13 rfl 72 rfl
                    have e73 : look 80 ρ 73 = undef := hrel 14 rfl 73 rfl
                    obtain ⟨H, -⟩ := (show Hp S0 σ0 σ82 [Ch.ro n0 (Sl a5 r2.1 c6) r2.1, Ch.own n0 n0 (Sl a11 r8.1.2.1 c12) r8.1.2.1, Ch.bx n0 b14 0 [(I r8.1.1), (Sl a11 r8.1.2.1 c12), (I r8.1.2.2)] [] []] ∧ Md (cov []) σ54 σ82 from hJ)
                    clear hJ Hs
                    rw [fr_lookL (L := [(3, (Sl a5 r2.1 c6)), (4, (I r2.2)), (5, (pt b14 0)), (6, (B r8.2)), (10, (I s53.2)), (60, (B s53.1)), (68, (B (x59.1 == r2.2))), (72, undef), (73, undef)]) ⟨e3, e4, e5, e6, e10, e60, e68, e72, e73, trivial⟩]
                    clear hoff hrel e3 e4 e5 e6 e10 e60 e68 e72 e73
                    refine st_skip (congrArg some hb65) ?_
                    refine st_g (v := (B false)) (congrArg some hb57) (rv_pick_f (congrArg B hb65) rfl) ?_
                    refine st (v := (B false)) (rv_pick_f (congrArg B hb57) rfl) ?_
                    refine st (v := (B false)) (rv_assign rfl) ?_
                    refine w_end ?_
                    obtain rfl := Option.some.inj h
                    exact ⟨rfl, _, σ82, fr_join ⟨rfl, rfl, rfl, rfl, rfl, rfl, trivial⟩, rfl, H.sel' [0, 1, 2] rfl rfl⟩
            · clear hj
              have h := h'
              clear h' H
              rintro e a w ⟨rfl, ρ, σ83, rfl, rfl, H⟩
              refine q_blk ?_
              refine q_then ?_
              refine rg ?_
              refine st (v := (I s53.2)) (rv_move rfl) ?_
              refine st (v := (I (w64 (s53.2 + 1)))) (rv_add (a := s53.2) (b := 1) rfl rfl) ?_
              refine st (v := (I (w64 (s53.2 + 1)))) (rv_assign rfl) ?_
              refine w_end ?_
              refine q_then ?_
              obtain rfl := Option.some.inj h
              exact ⟨_, rfl, _, σ83, fr_join ⟨rfl, rfl, rfl, rfl, rfl, rfl, trivial⟩, rfl, H.sel' [0, 1, 2] rfl rfl⟩
          · replace h := bif_f hb55 h
            refine c_exit ?_
            refine q_then_x ?_
            refine q_then_x ?_
            refine q_blk_hit ?_
            obtain rfl := Option.some.inj h
            obtain rfl := hres _ rfl
            exact ⟨rfl, _, σ54, fr_join ⟨rfl, rfl, trivial⟩, rfl, H.sel' [] rfl rfl⟩
        · clear hj
          have h := h'
          clear h' H
          rintro e a w ⟨rfl, ρ, σ84, rfl, rfl, H⟩
          refine q_then ?_
          refine c_seq ?_
          refine rg ?_
          refine st (v := (B o52)) (rv_move rfl) ?_
          refine st (v := (B r8.2)) (rv_move rfl) ?_
          refine st (v := (B (o52 == r8.2))) (rv_beql Try.underlying4 rfl rfl) ?_
          refine st (v := (B (o52 == r8.2))) (rv_assign rfl) ?_
          refine w_end ?_
          refine q_then ?_
          refine c_ret ?_
          obtain rfl := Option.some.inj h
          exact fin_ret (v := (B (o52 == r8.2))) (results_ok Try.results8 (res_tmp (v := (B (o52 == r8.2))) rfl res_nil) rfl) ⟨rfl, rfl⟩ (H.sel' [] rfl rfl)

end Go.Vs
