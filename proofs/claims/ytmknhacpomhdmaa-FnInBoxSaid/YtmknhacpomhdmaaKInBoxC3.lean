/- The functions compute what their models say. -/
import Derived.Test.YtmknhacpomhdmaaKInBoxC2
set_option linter.unusedVariables false
set_option linter.unusedSimpArgs false
set_option maxRecDepth 20000
namespace Go.Vs
open Go Go.Proofs
attribute [local irreducible] Code.wp wpList wpQuiet Calls

theorem c_spec_DrawInBox {code_0 : List UInt8} {acode_0 : Option Addr} {ccode_0 : Nat} {r : (List (Int × (List Int) × Int)) × (List Int) × (List Int)} (h : M.spec_DrawInBox code_0 = some r) :
    Cal2 Try.prog 30 [(Sl acode_0 code_0 ccode_0)] [Ch.ro 0 (Sl acode_0 code_0 ccode_0) code_0] (fun n0 v L => ∃ (az1 : Option Addr), ∃ (cz2 : Nat), ∃ (az3 : Option Addr), ∃ (cz4 : Nat), ∃ (az5 : Option Addr), ∃ (cz6 : Nat), v = (.tuple #[(Sl az1 r.1 cz2), (Sl az3 r.2.1 cz4), (Sl az5 r.2.2 cz6)]) ∧ L = [Ch.own n0 n0 (Sl az1 r.1 cz2) r.1, Ch.own n0 n0 (Sl az3 r.2.1 cz4) r.2.1, Ch.own n0 n0 (Sl az5 r.2.2 cz6) r.2.2]) := by
  refine cal2 (n := 63) Try.func30 rfl rfl rfl rfl ?_
  intro S0 σ0 n0 hn0 H
  unfold M.spec_DrawInBox at h
  refine c_seq ?_
  refine rg ?_
  refine st (v := (.slice none 0 0)) (rv_assign rfl) ?_
  refine st (v := (.slice none 0 0)) (rv_assign rfl) ?_
  refine st (v := (.slice none 0 0)) (rv_assign rfl) ?_
  refine w_end ?_
  refine q_then ?_
  refine c_seq ?_
  refine rg ?_
  refine st (v := (Sl acode_0 code_0 ccode_0)) (rv_move rfl) ?_
  obtain ⟨r1, hx2, h'⟩ := bind_some h
  clear h
  have h := h'; clear h'
  have hc3 := c_spec_newReader (acode_0 := acode_0) (ccode_0 := ccode_0) hx2
  refine st_call (cx_call hc3 (ent_f hc3.fn rfl) hn0 (show Hp S0 σ0 _ ([Ch.ro 0 (Sl acode_0 code_0 ccode_0) code_0] ++ [Ch.ro 0 (Sl acode_0 code_0 ccode_0) code_0]) from (H.sel' [0, 0] rfl rfl))) (wanted_none _ rfl _) ?_
  rintro _ σ7 ⟨_, ⟨b4, a5, c6, rfl, rfl⟩, H, -⟩
  replace H : Hp S0 σ0 σ7 [Ch.bx n0 b4 0 [(Sl a5 r1.1 c6), (I r1.2)] [] [], Ch.ro 0 (Sl a5 r1.1 c6) r1.1, Ch.ro 0 (Sl acode_0 code_0 ccode_0) code_0] := H
  refine st (v := (pt b4 0)) (rv_assign rfl) ?_
  refine w_end ?_
  refine q_then ?_
  refine c_seq ?_
  refine rg ?_
  refine st (v := (pt b4 0)) (rv_move rfl) ?_
  obtain ⟨r8, hx9, h'⟩ := bind_some h
  clear h
  have h := h'; clear h'
  have hc10 := c_spec_anyStore (lor_0 := n0) (br_0 := b4) (or_0 := 0) (prer_0 := []) (sufr_0 := []) (ar_0_0 := a5) (cr_0_0 := c6) hx9
  refine st_call (cx_call hc10 (ent_f hc10.fn rfl) hn0 (show Hp S0 σ0 _ ([Ch.bx n0 b4 0 [(Sl a5 r1.1 c6), (I r1.2)] [] [], Ch.ro 0 (Sl a5 r1.1 c6) r1.1] ++ [Ch.ro 0 (Sl a5 r1.1 c6) r1.1, Ch.ro 0 (Sl acode_0 code_0 ccode_0) code_0]) from (H.sel' [0, 1, 1, 2] rfl rfl))) (wanted_none _ rfl _) ?_
  rintro _ σ15 ⟨_, ⟨a11, c12, a13, c14, rfl, rfl⟩, H, -⟩
  replace H : Hp S0 σ0 σ15 [Ch.own n0 n0 (Sl a11 r8.1 c12) r8.1, Ch.bx n0 b4 0 [(Sl a13 r8.2.1 c14), (I r8.2.2)] [] [], Ch.ro 0 (Sl a13 r8.2.1 c14) r8.2.1, Ch.ro 0 (Sl a5 r1.1 c6) r1.1, Ch.ro 0 (Sl acode_0 code_0 ccode_0) code_0] := H
  refine st (v := (Sl a11 r8.1 c12)) (rv_assign rfl) ?_
  refine w_end ?_
  refine q_then ?_
  refine c_seq ?_
  refine rg ?_
  refine st (v := (pt b4 0)) (rv_move rfl) ?_
  obtain ⟨r16, hx17, h'⟩ := bind_some h
  clear h
  have h := h'; clear h'
  have hc18 := c_spec_anyVector (lor_0 := n0) (br_0 := b4) (or_0 := 0) (prer_0 := []) (sufr_0 := []) (ar_0_0 := a13) (cr_0_0 := c14) hx17
  refine st_call (cx_call hc18 (ent_f hc18.fn rfl) hn0 (show Hp S0 σ0 _ ([Ch.bx n0 b4 0 [(Sl a13 r8.2.1 c14), (I r8.2.2)] [] [], Ch.ro 0 (Sl a13 r8.2.1 c14) r8.2.1] ++ [Ch.own n0 n0 (Sl a11 r8.1 c12) r8.1, Ch.ro 0 (Sl a13 r8.2.1 c14) r8.2.1, Ch.ro 0 (Sl a5 r1.1 c6) r1.1, Ch.ro 0 (Sl acode_0 code_0 ccode_0) code_0]) from (H.sel' [1, 2, 0, 2, 3, 4] rfl rfl))) (wanted_none _ rfl _) ?_
  rintro _ σ23 ⟨_, ⟨a19, c20, a21, c22, rfl, rfl⟩, H, -⟩
  replace H : Hp S0 σ0 σ23 [Ch.own n0 n0 (Sl a19 r16.1 c20) r16.1, Ch.bx n0 b4 0 [(Sl a21 r16.2.1 c22), (I r16.2.2)] [] [], Ch.ro 0 (Sl a21 r16.2.1 c22) r16.2.1, Ch.own n0 n0 (Sl a11 r8.1 c12) r8.1, Ch.ro 0 (Sl a13 r8.2.1 c14) r8.2.1, Ch.ro 0 (Sl a5 r1.1 c6) r1.1, Ch.ro 0 (Sl acode_0 code_0 ccode_0) code_0] := H
  refine st (v := (Sl a19 r16.1 c20)) (rv_assign rfl) ?_
  refine w_end ?_
  refine q_then ?_
  refine c_seq ?_
  refine rg ?_
  refine st (v := (pt b4 0)) (rv_move rfl) ?_
  obtain ⟨r24, hx25, h'⟩ := bind_some h
  clear h
  have h := h'; clear h'
  have hc26 := c_spec_anyVector (lor_0 := n0) (br_0 := b4) (or_0 := 0) (prer_0 := []) (sufr_0 := []) (ar_0_0 := a21) (cr_0_0 := c22) hx25
  refine st_call (cx_call hc26 (ent_f hc26.fn rfl) hn0 (show Hp S0 σ0 _ ([Ch.bx n0 b4 0 [(Sl a21 r16.2.1 c22), (I r16.2.2)] [] [], Ch.ro 0 (Sl a21 r16.2.1 c22) r16.2.1] ++ [Ch.own n0 n0 (Sl a19 r16.1 c20) r16.1, Ch.ro 0 (Sl a21 r16.2.1 c22) r16.2.1, Ch.own n0 n0 (Sl a11 r8.1 c12) r8.1, Ch.ro 0 (Sl a13 r8.2.1 c14) r8.2.1, Ch.ro 0 (Sl a5 r1.1 c6) r1.1, Ch.ro 0 (Sl acode_0 code_0 ccode_0) code_0]) from (H.sel' [1, 2, 0, 2, 3, 4, 5, 6] rfl rfl))) (wanted_none _ rfl _) ?_
  rintro _ σ31 ⟨_, ⟨a27, c28, a29, c30, rfl, rfl⟩, H, -⟩
  replace H : Hp S0 σ0 σ31 [Ch.own n0 n0 (Sl a27 r24.1 c28) r24.1, Ch.bx n0 b4 0 [(Sl a29 r24.2.1 c30), (I r24.2.2)] [] [], Ch.ro 0 (Sl a29 r24.2.1 c30) r24.2.1, Ch.own n0 n0 (Sl a19 r16.1 c20) r16.1, Ch.ro 0 (Sl a21 r16.2.1 c22) r16.2.1, Ch.own n0 n0 (Sl a11 r8.1 c12) r8.1, Ch.ro 0 (Sl a13 r8.2.1 c14) r8.2.1, Ch.ro 0 (Sl a5 r1.1 c6) r1.1, Ch.ro 0 (Sl acode_0 code_0 ccode_0) code_0] := H
  replace H : Hp S0 σ0 σ31 [Ch.own n0 n0 (Sl a27 r24.1 c28) r24.1, Ch.bx n0 b4 0 [(Sl a29 r24.2.1 c30), (I r24.2.2)] [] [], Ch.ro 0 (Sl a29 r24.2.1 c30) r24.2.1, Ch.own n0 n0 (Sl a19 r16.1 c20) r16.1, Ch.own n0 n0 (Sl a11 r8.1 c12) r8.1] := H.sel' [0, 1, 2, 3, 5] rfl rfl
  refine st (v := (Sl a27 r24.1 c28)) (rv_assign rfl) ?_
  refine w_end ?_
  refine q_then ?_
  refine c_seq ?_
  refine c_seq ?_
  refine rg ?_
  refine st (v := (I 0)) (rv_assign rfl) ?_
  refine w_end ?_
  refine q_then ?_
  obtain ⟨o32, hj, h'⟩ := bind_some h
  clear h
  refine c_cut (fun e a w => e = .normal ∧ ∃ (ρ : Nat → Value) (σ : St), a = fr 63 (updL ρ [(6, (Sl a11 r8.1 c12)), (7, (Sl a19 o32.1 c20)), (8, (Sl a27 o32.2 c28))]) ∧ w = σ.w ∧ Hp S0 σ0 σ [Ch.own n0 n0 (Sl a11 r8.1 c12) r8.1, Ch.own n0 n0 (Sl a19 o32.1 c20) o32.1, Ch.own n0 n0 (Sl a27 o32.2 c28) o32.2] ∧ o32.1.length = r16.1.length ∧ o32.2.length = r24.1.length) ?_ ?_
  · clear h'
    rename _ = some o32 => h
    refine c_blk ?_
    refine wp_loopM _ h (fun s33 a w => ∃ (ρ : Nat → Value) (σ : St) (aj1 : Option Addr) (cj2 : Nat), a = fr 63 (updL ρ [(5, (pt b4 0)), (6, (Sl a11 r8.1 c12)), (7, (Sl a19 s33.2.1 c20)), (8, (Sl a27 s33.2.2.1 c28)), (9, (I s33.2.2.2))]) ∧ w = σ.w ∧ Hp S0 σ0 σ [Ch.bx n0 b4 0 [(Sl aj1 s33.1.1 cj2), (I s33.1.2)] [] [], Ch.ro 0 (Sl aj1 s33.1.1 cj2) s33.1.1, Ch.own n0 n0 (Sl a11 r8.1 c12) r8.1, Ch.own n0 n0 (Sl a19 s33.2.1 c20) s33.2.1, Ch.own n0 n0 (Sl a27 s33.2.2.1 c28) s33.2.2.1] ∧ s33.2.1.length = r16.1.length ∧ s33.2.2.1.length = r24.1.length) ⟨_, σ31, a29, c30, fr_join ⟨rfl, rfl, rfl, rfl, rfl, trivial⟩, rfl, H.sel' [1, 2, 4, 3, 0] rfl rfl, rfl, rfl⟩ ?_
    clear h H
    rintro s33 a w o ⟨ρ, σ34, a35, c36, rfl, rfl, H, hn37, hn38⟩ h hres
    refine c_seq ?_
    refine c_seq ?_
    obtain ⟨o39, hj, h'⟩ := bind_some h
    clear h
    refine c_cut (fun e a w => e = .normal ∧ ∃ (ρ : Nat → Value) (σ : St) (aj1 : Option Addr) (cj2 : Nat), a = fr 63 (updL ρ [(5, (pt b4 0)), (6, (Sl a11 r8.1 c12)), (7, (Sl a19 s33.2.1 c20)), (8, (Sl a27 s33.2.2.1 c28)), (9, (I s33.2.2.2)), (33, (B o39.2))]) ∧ w = σ.w ∧ Hp S0 σ0 σ [Ch.bx n0 b4 0 [(Sl aj1 o39.1.1 cj2), (I o39.1.2)] [] [], Ch.ro 0 (Sl aj1 o39.1.1 cj2) o39.1.1, Ch.own n0 n0 (Sl a11 r8.1 c12) r8.1, Ch.own n0 n0 (Sl a19 s33.2.1 c20) s33.2.1, Ch.own n0 n0 (Sl a27 s33.2.2.1 c28) s33.2.2.1]) ?_ ?_
    · clear h'
      rename _ = some o39 => h
      refine rg ?_
      refine st (v := (I s33.2.2.2)) (rv_move rfl) ?_
      refine st (v := (Sl a19 s33.2.1 c20)) (rv_move rfl) ?_
      refine st (v := (I (s33.2.1.length : Int))) (rv_len Try.underlying25 rfl) ?_
      refine st (v := (B (decide (s33.2.2.2 < (s33.2.1.length : Int))))) (rv_lss (a := s33.2.2.2) (b := (s33.2.1.length : Int)) rfl rfl) ?_
      refine st (v := (B (decide (s33.2.2.2 < (s33.2.1.length : Int))))) (rv_move rfl) ?_
      rcases Bool.eq_false_or_eq_true (decide (s33.2.2.2 < (s33.2.1.length : Int))) with hb40 | hb40
      · replace h := bif_t hb40 h
        refine st_g (v := (I s33.2.2.2)) (congrArg some hb40) (rv_move rfl) ?_
        refine st_g (v := (Sl a27 s33.2.2.1 c28)) (congrArg some hb40) (rv_move rfl) ?_
        refine st_g (v := (I (s33.2.2.1.length : Int))) (congrArg some hb40) (rv_len Try.underlying25 rfl) ?_
        refine st_g (v := (B (decide (s33.2.2.2 < (s33.2.2.1.length : Int))))) (congrArg some hb40) (rv_lss (a := s33.2.2.2) (b := (s33.2.2.1.length : Int)) rfl rfl) ?_
        refine st (v := (B (decide (s33.2.2.2 < (s33.2.2.1.length : Int))))) (rv_pick_t (congrArg B hb40) rfl) ?_
        refine st (v := (B (decide (s33.2.2.2 < (s33.2.2.1.length : Int))))) (rv_move rfl) ?_
        rcases Bool.eq_false_or_eq_true (decide (s33.2.2.2 < (s33.2.2.1.length : Int))) with hb41 | hb41
        · replace h := bif_t hb41 h
          refine st_g (v := (pt b4 0)) (congrArg some hb41) (rv_move rfl) ?_
          obtain ⟨r42, hx43, h'⟩ := bind_some h
          clear h
          have h := h'; clear h'
          have hc44 := c_spec_reader_pick (lor_0 := n0) (br_0 := b4) (or_0 := 0) (prer_0 := []) (sufr_0 := []) (ar_0_0 := a35) (cr_0_0 := c36) hx43
          refine st_call (cx_call hc44 (ent_f hc44.fn rfl) hn0 (show Hp S0 σ0 _ ([Ch.bx n0 b4 0 [(Sl a35 s33.1.1 c36), (I s33.1.2)] [] [], Ch.ro 0 (Sl a35 s33.1.1 c36) s33.1.1] ++ [Ch.ro 0 (Sl a35 s33.1.1 c36) s33.1.1, Ch.own n0 n0 (Sl a11 r8.1 c12) r8.1, Ch.own n0 n0 (Sl a19 s33.2.1 c20) s33.2.1, Ch.own n0 n0 (Sl a27 s33.2.2.1 c28) s33.2.2.1]) from (H.sel' [0, 1, 1, 2, 3, 4] rfl rfl))) (wanted_yes rfl (by exact (congrArg some hb41))) ?_
          rintro _ σ47 ⟨_, ⟨a45, c46, rfl, rfl⟩, H, -⟩
          replace H : Hp S0 σ0 σ47 [Ch.bx n0 b4 0 [(Sl a45 r42.2.1 c46), (I r42.2.2)] [] [], Ch.ro 0 (Sl a45 r42.2.1 c46) r42.2.1, Ch.ro 0 (Sl a35 s33.1.1 c36) s33.1.1, Ch.own n0 n0 (Sl a11 r8.1 c12) r8.1, Ch.own n0 n0 (Sl a19 s33.2.1 c20) s33.2.1, Ch.own n0 n0 (Sl a27 s33.2.2.1 c28) s33.2.2.1] := H
          refine st_g (v := (B (decide (0 < r42.1)))) (congrArg some hb41) (rv_gtr (a := r42.1) (b := 0) rfl rfl) ?_
          refine st (v := (B (decide (0 < r42.1)))) (rv_pick_t (congrArg B hb41) rfl) ?_
          refine w_end ?_
          obtain rfl := Option.some.inj h
          exact ⟨rfl, _, σ47, a45, c46, fr_join ⟨rfl, rfl, rfl, rfl, rfl, rfl, trivial⟩, rfl, H.sel' [0, 1, 3, 4, 5] rfl rfl⟩
        · replace h := bif_f hb41 h
          refine st_skip (congrArg some hb41) ?_
          refine st_skip (congrArg some hb41) ?_
          refine st_skip (congrArg some hb41) ?_
          refine st (v := (B false)) (rv_pick_f (congrArg B hb41) rfl) ?_
          refine w_end ?_
          obtain rfl := Option.some.inj h
          exact ⟨rfl, _, σ34, a35, c36, fr_join ⟨rfl, rfl, rfl, rfl, rfl, rfl, trivial⟩, rfl, H.sel' [0, 1, 2, 3, 4] rfl rfl⟩
      · replace h := bif_f hb40 h
        refine st_skip (congrArg some hb40) ?_
        refine st_skip (congrArg some hb40) ?_
        refine st_skip (congrArg some hb40) ?_
        refine st_skip (congrArg some hb40) ?_
        refine st (v := (B false)) (rv_pick_f (congrArg B hb40) rfl) ?_
        refine st (v := (B false)) (rv_move rfl) ?_
        refine st_skip rfl ?_
        refine st_skip rfl ?_
        refine st_skip rfl ?_
        refine st (v := (B false)) (rv_pick_f rfl rfl) ?_
        refine w_end ?_
        obtain rfl := Option.some.inj h
        exact ⟨rfl, _, σ34, a35, c36, fr_join ⟨rfl, rfl, rfl, rfl, rfl, rfl, trivial⟩, rfl, H.sel' [0, 1, 2, 3, 4] rfl rfl⟩
    · clear hj
      have h := h'
      clear h' H
      rintro e a w ⟨rfl, ρ, σ48, a49, c50, rfl, rfl, H⟩
      refine q_then ?_
      refine cd_cond o39.2 rfl (fun hb51 => ?_) (fun hb51 => ?_)
      · replace h := bif_t hb51 h
        refine c_skip ?_
        refine q_then ?_
        refine c_seq ?_
        obtain ⟨o52, hj, h'⟩ := bind_some h
        clear h
        refine c_cut (fun e a w => e = .normal ∧ ∃ (ρ : Nat → Value) (σ : St), a = fr 63 (updL ρ [(5, (pt b4 0)), (6, (Sl a11 r8.1 c12)), (7, (Sl a19 o52.1 c20)), (8, (Sl a27 o52.2 c28)), (9, (I s33.2.2.2))]) ∧ w = σ.w ∧ Hp S0 σ0 σ [Ch.ro 0 (Sl a49 o39.1.1 c50) o39.1.1, Ch.bx n0 b4 0 [(Sl a49 o39.1.1 c50), (I o39.1.2)] [] [], Ch.own n0 n0 (Sl a11 r8.1 c12) r8.1, Ch.own n0 n0 (Sl a19 o52.1 c20) o52.1, Ch.own n0 n0 (Sl a27 o52.2 c28) o52.2] ∧ o52.1.length = s33.2.1.length ∧ o52.2.length = s33.2.2.1.length) ?_ ?_
        · clear h'
          rename _ = some o52 => h
          refine c_blk ?_
          refine c_seq ?_
          obtain ⟨x53, hx54, h'⟩ := bind_some h
          clear h
          have h := h'; clear h'
          obtain ⟨b56, o57, hi55, -⟩ := (H.own 3 rfl).ix hx54
          have hc58 := ((H.own 3 rfl).at hx54 hi55).int
          obtain ⟨x59, hx60, h'⟩ := bind_some h
          clear h
          have h := h'; clear h'
          obtain ⟨b62, o63, hi61, -⟩ := (H.own 4 rfl).ix hx60
          have hc64 := ((H.own 4 rfl).at hx60 hi61).int
          have Hs := H
          refine rg2 (σ := σ48) (Nm := Unit) 8 [] [[]] [[(0, 0)], [(0, 0)], [(0, 0)], [(0, 0)], [(0, 0)], [(0, 0)], [(0, 0)], [(0, 0)]] 0 [fun (_nm : Unit) => fun σm => Hp S0 σ0 σm [Ch.bx n0 b4 0 [(Sl a49 o39.1.1 c50), (I o39.1.2)] [] [], Ch.ro 0 (Sl a49 o39.1.1 c50) o39.1.1, Ch.own n0 n0 (Sl a11 r8.1 c12) r8.1, Ch.own n0 n0 (Sl a19 s33.2.1 c20) s33.2.1, Ch.own n0 n0 (Sl a27 s33.2.2.1 c28) s33.2.2.1] ∧ Md (cov []) σ48 σm] [fun (_nm : Unit) => (Sl a19 s33.2.1 c20), fun (_nm : Unit) => (I s33.2.2.2), fun (_nm : Unit) => (pt b56 o57), fun (_nm : Unit) => (I x53), fun (_nm : Unit) => (Sl a27 s33.2.2.1 c28), fun (_nm : Unit) => (I s33.2.2.2), fun (_nm : Unit) => (pt b62 o63), fun (_nm : Unit) => (I x59)] () (by kernel_rfl) (by kernel_rfl) ?_ ?_ ?_
          · intro σm m0
            exact ⟨H.grow (m0.mono fun _ h => h.elim), m0⟩
          · refine all_cons (obs_v rfl (by
                intro k; intro _nm ρ σm hJ hoff hdep
                have e7 : look 63 ρ 7 = (Sl a19 s33.2.1 c20) := look_off (hoff 7 rfl) rfl
                exact dp_v (v := (Sl a19 s33.2.1 c20)) (wanted_none _ rfl _) (rv_move e7) rfl hJ)) ?_
            refine all_cons (obs_v rfl (by
                intro k; intro _nm ρ σm hJ hoff hdep
                have e9 : look 63 ρ 9 = (I s33.2.2.2) := look_off (hoff 9 rfl) rfl
                exact dp_v (v := (I s33.2.2.2)) (wanted_none _ rfl _) (rv_move e9) rfl hJ)) ?_
            refine all_cons (obs_v rfl (by
                intro k; intro _nm ρ σm hJ hoff hdep
                have e36 : look 63 ρ 36 = (Sl a19 s33.2.1 c20) := hdep 0 rfl rfl 36 rfl
                have e37 : look 63 ρ 37 = (I s33.2.2.2) := hdep 1 rfl rfl 37 rfl
                exact dp_v (v := (pt b56 o57)) (wanted_none _ rfl _) (rv_ix Try.underlying25 ti3 e36 e37 hi55) rfl hJ)) ?_
            refine all_cons (by
                refine ⟨?_, ?_⟩
                · intro _nm ρ σm hJ hoff hdep
                  have e38 : look 63 ρ 38 = (pt b56 o57) := hdep 2 rfl rfl 38 rfl
                  obtain ⟨H, m⟩ := (show Hp S0 σ0 σm [Ch.bx n0 b4 0 [(Sl a49 o39.1.1 c50), (I o39.1.2)] [] [], Ch.ro 0 (Sl a49 o39.1.1 c50) o39.1.1, Ch.own n0 n0 (Sl a11 r8.1 c12) r8.1, Ch.own n0 n0 (Sl a19 s33.2.1 c20) s33.2.1, Ch.own n0 n0 (Sl a27 s33.2.2.1 c28) s33.2.2.1] ∧ Md (cov []) σ48 σm from hJ)
                  have hc58 := ((H.own 3 rfl).at hx54 hi55).int
                  exact dp_v (v := (I x53)) (wanted_none _ rfl _) (rv_load1 Try.underlying3 rfl e38 hc58) rfl hJ
                trivial) ?_
            refine all_cons (obs_v rfl (by
                intro k; intro _nm ρ σm hJ hoff hdep
                have e8 : look 63 ρ 8 = (Sl a27 s33.2.2.1 c28) := look_off (hoff 8 rfl) rfl
                exact dp_v (v := (Sl a27 s33.2.2.1 c28)) (wanted_none _ rfl _) (rv_move e8) rfl hJ)) ?_
            refine all_cons (obs_v rfl (by
                intro k; intro _nm ρ σm hJ hoff hdep
                have e9 : look 63 ρ 9 = (I s33.2.2.2) := look_off (hoff 9 rfl) rfl
                exact dp_v (v := (I s33.2.2.2)) (wanted_none _ rfl _) (rv_move e9) rfl hJ)) ?_
            refine all_cons (obs_v rfl (by
                intro k; intro _nm ρ σm hJ hoff hdep
                have e40 : look 63 ρ 40 = (Sl a27 s33.2.2.1 c28) := hdep 4 rfl rfl 40 rfl
                have e41 : look 63 ρ 41 = (I s33.2.2.2) := hdep 5 rfl rfl 41 rfl
                exact dp_v (v := (pt b62 o63)) (wanted_none _ rfl _) (rv_ix Try.underlying25 ti3 e40 e41 hi61) rfl hJ)) ?_
            refine all_cons (by
                refine ⟨?_, ?_⟩
                · intro _nm ρ σm hJ hoff hdep
                  have e42 : look 63 ρ 42 = (pt b62 o63) := hdep 6 rfl rfl 42 rfl
                  obtain ⟨H, m⟩ := (show Hp S0 σ0 σm [Ch.bx n0 b4 0 [(Sl a49 o39.1.1 c50), (I o39.1.2)] [] [], Ch.ro 0 (Sl a49 o39.1.1 c50) o39.1.1, Ch.own n0 n0 (Sl a11 r8.1 c12) r8.1, Ch.own n0 n0 (Sl a19 s33.2.1 c20) s33.2.1, Ch.own n0 n0 (Sl a27 s33.2.2.1 c28) s33.2.2.1] ∧ Md (cov []) σ48 σm from hJ)
                  have hc64 := ((H.own 4 rfl).at hx60 hi61).int
                  exact dp_v (v := (I x59)) (wanted_none _ rfl _) (rv_load1 Try.underlying3 rfl e42 hc64) rfl hJ
                trivial) ?_
            exact all_nil
          · intro _nm ρ σ65 hJ hoff hrel
            have e5 : look 63 ρ 5 = (pt b4 0) := look_off (hoff 5 rfl) rfl
            have e6 : look 63 ρ 6 = (Sl a11 r8.1 c12) := look_off (hoff 6 rfl) rfl
            have e7 : look 63 ρ 7 = (Sl a19 s33.2.1 c20) := look_off (hoff 7 rfl) rfl
            have e8 : look 63 ρ 8 = (Sl a27 s33.2.2.1 c28) := look_off (hoff 8 rfl) rfl
            have e9 : look 63 ρ 9 = (I s33.2.2.2) := look_off (hoff 9 rfl) rfl
            have e39 : look 63 ρ 39 = (I x53) := hrel 3 rfl 39 rfl
            have e43 : look 63 ρ 43 = (I x59) := hrel 7 rfl 43 rfl
            obtain ⟨H, -⟩ := (show Hp S0 σ0 σ65 [Ch.bx n0 b4 0 [(Sl a49 o39.1.1 c50), (I o39.1.2)] [] [], Ch.ro 0 (Sl a49 o39.1.1 c50) o39.1.1, Ch.own n0 n0 (Sl a11 r8.1 c12) r8.1, Ch.own n0 n0 (Sl a19 s33.2.1 c20) s33.2.1, Ch.own n0 n0 (Sl a27 s33.2.2.1 c28) s33.2.2.1] ∧ Md (cov []) σ48 σ65 from hJ)
            clear hJ Hs
            rw [fr_lookL (L := [(5, (pt b4 0)), (6, (Sl a11 r8.1 c12)), (7, (Sl a19 s33.2.1 c20)), (8, (Sl a27 s33.2.2.1 c28)), (9, (I s33.2.2.2)), (39, (I x53)), (43, (I x59))]) ⟨e5, e6, e7, e8, e9, e39, e43, trivial⟩]
            clear hoff hrel e5 e6 e7 e8 e9 e39 e43
            refine st (v := (B (decide (x59 < x53)))) (rv_gtr (a := x53) (b := x59) rfl rfl) ?_
            refine w_end ?_
            refine q_then ?_
            refine cd_cond (decide (x59 < x53)) rfl (fun hb66 => ?_) (fun hb66 => ?_)
            · replace h := bif_t hb66 h
              refine c_seq ?_
              refine rg ?_
              refine st (v := (Sl a19 s33.2.1 c20)) (rv_move rfl) ?_
              refine st (v := (I s33.2.2.2)) (rv_move rfl) ?_
              obtain ⟨x67, hx68, h'⟩ := bind_some h
              clear h
              have h := h'; clear h'
              obtain ⟨b70, o71, hi69, -⟩ := (H.own 3 rfl).ix hx68
              refine st (v := (pt b70 o71)) (rv_ix Try.underlying25 ti3 rfl rfl hi69) ?_
              have hc72 := ((H.own 3 rfl).at hx68 hi69).int
              refine st (v := (I x67)) (rv_load1 Try.underlying3 rfl rfl hc72) ?_
              refine st (v := (I x67)) (rv_assign rfl) ?_
              refine w_end ?_
              refine q_then ?_
              refine c_seq ?_
              refine rg ?_
              refine st (v := (Sl a19 s33.2.1 c20)) (rv_move rfl) ?_
              refine st (v := (I s33.2.2.2)) (rv_move rfl) ?_
              refine st (v := (Sl a27 s33.2.2.1 c28)) (rv_move rfl) ?_
              refine st (v := (I s33.2.2.2)) (rv_move rfl) ?_
              obtain ⟨x73, hx74, h'⟩ := bind_some h
              clear h
              have h := h'; clear h'
              obtain ⟨b76, o77, hi75, -⟩ := (H.own 4 rfl).ix hx74
              refine st (v := (pt b76 o77)) (rv_ix Try.underlying25 ti3 rfl rfl hi75) ?_
              have hc78 := ((H.own 4 rfl).at hx74 hi75).int
              refine st (v := (I x73)) (rv_load1 Try.underlying3 rfl rfl hc78) ?_
              obtain ⟨x79, hx80, h'⟩ := bind_some h
              clear h
              have h := h'; clear h'
              obtain ⟨b82, o83, hi81, -⟩ := (H.own 3 rfl).ix hx80
              refine st (v := (pt b82 o83)) (rv_ix Try.underlying25 ti3 rfl rfl hi81) ?_
              refine st_exS (ex_store_own (e' := x73) (vs := [(I x73)]) (k := 0) H (i := 3) rfl ti3 hx80 hi81 rfl rfl rfl rfl rfl (Nat.le_of_ble_eq_true rfl) (by simp [plain]) (by rintro _ rfl; exact rfl)) (wanted_none _ rfl _) ?_
              rintro σ84 ⟨H, -⟩
              have hsl : (Sl a19 s33.2.1 c20) = (Sl a19 (s33.2.1.set s33.2.2.2.toNat x73) c20) := sl_len List.length_set.symm
              rw [hsl]; rw [hsl] at H; clear hsl
              refine w_end ?_
              refine q_then ?_
              refine rg ?_
              refine st (v := (Sl a27 s33.2.2.1 c28)) (rv_move rfl) ?_
              refine st (v := (I s33.2.2.2)) (rv_move rfl) ?_
              refine st (v := (I x67)) (rv_move rfl) ?_
              obtain ⟨x85, hx86, h'⟩ := bind_some h
              clear h
              have h := h'; clear h'
              obtain ⟨b88, o89, hi87, -⟩ := (H.own 4 rfl).ix hx86
              refine st (v := (pt b88 o89)) (rv_ix Try.underlying25 ti3 rfl rfl hi87) ?_
              refine st_exS (ex_store_own (e' := x67) (vs := [(I x67)]) (k := 0) H (i := 4) rfl ti3 hx86 hi87 rfl rfl rfl rfl rfl (Nat.le_of_ble_eq_true rfl) (by simp [plain]) (by rintro _ rfl; exact rfl)) (wanted_none _ rfl _) ?_
              rintro σ90 ⟨H, -⟩
              have hsl : (Sl a27 s33.2.2.1 c28) = (Sl a27 (s33.2.2.1.set s33.2.2.2.toNat x67) c28) := sl_len List.length_set.symm
              rw [hsl]; rw [hsl] at H; clear hsl
              refine w_end ?_
              refine q_blk ?_
              obtain rfl := Option.some.inj h
              exact ⟨rfl, _, σ90, fr_join ⟨rfl, rfl, rfl, rfl, rfl, trivial⟩, rfl, H.sel' [3, 2, 4, 1, 0] rfl rfl, ((List.length_set.trans hn37).trans hn37.symm), ((List.length_set.trans hn38).trans hn38.symm)⟩
            · replace h := bif_f hb66 h
              refine c_skip ?_
              refine q_blk ?_
              obtain rfl := Option.some.inj h
              exact ⟨rfl, _, σ65, fr_join ⟨rfl, rfl, rfl, rfl, rfl, trivial⟩, rfl, H.sel' [1, 0, 2, 3, 4] rfl rfl, rfl, rfl⟩
        · clear hj
          have h := h'
          clear h' H
          rintro e a w ⟨rfl, ρ, σ91, rfl, rfl, H, hn92, hn93⟩
          refine q_then ?_
          refine rg ?_
          refine st (v := (I s33.2.2.2)) (rv_move rfl) ?_
          refine st (v := (I (w64 (s33.2.2.2 + 1)))) (rv_add (a := s33.2.2.2) (b := 1) rfl rfl) ?_
          refine st (v := (I (w64 (s33.2.2.2 + 1)))) (rv_assign rfl) ?_
          refine w_end ?_
          refine q_then ?_
          obtain rfl := Option.some.inj h
          exact ⟨_, rfl, _, σ91, a49, c50, fr_join ⟨rfl, rfl, rfl, rfl, rfl, trivial⟩, rfl, H.sel' [1, 0, 2, 3, 4] rfl rfl, (hn92.trans hn37), (hn93.trans hn38)⟩
      · replace h := bif_f hb51 h
        refine c_exit ?_
        refine q_then_x ?_
        refine q_then_x ?_
        refine q_blk_hit ?_
        obtain rfl := Option.some.inj h
        obtain rfl := hres _ rfl
        exact ⟨rfl, _, σ48, fr_join ⟨rfl, rfl, rfl, trivial⟩, rfl, H.sel' [2, 3, 4] rfl rfl, hn37, hn38⟩
  · clear hj
    have h := h'
    clear h' H
    rintro e a w ⟨rfl, ρ, σ94, rfl, rfl, H, hn95, hn96⟩
    refine q_then ?_
    refine c_seq ?_
    refine rg ?_
    refine st (v := (Sl a11 r8.1 c12)) (rv_move rfl) ?_
    refine st (v := (Sl a19 o32.1 c20)) (rv_move rfl) ?_
    refine st (v := (Sl a27 o32.2 c28)) (rv_move rfl) ?_
    refine st (v := (Sl a11 r8.1 c12)) (rv_assign rfl) ?_
    refine st (v := (Sl a19 o32.1 c20)) (rv_assign rfl) ?_
    refine st (v := (Sl a27 o32.2 c28)) (rv_assign rfl) ?_
    refine w_end ?_
    refine q_then ?_
    refine c_ret ?_
    obtain rfl := Option.some.inj h
    exact fin_ret (v := (.tuple #[(Sl a11 r8.1 c12), (Sl a19 o32.1 c20), (Sl a27 o32.2 c28)])) (results_ok Try.results30 (res_tmp (v := (Sl a11 r8.1 c12)) rfl (res_tmp (v := (Sl a19 o32.1 c20)) rfl (res_tmp (v := (Sl a27 o32.2 c28)) rfl res_nil))) rfl) ⟨a11, c12, a19, c20, a27, c28, rfl, rfl⟩ (H.sel' [0, 1, 2] rfl rfl)

theorem c_spec_InBox {list_0 : List (Int × (List Int) × Int)} {low_1 : List Int} {high_2 : List Int} {alist_0 : Option Addr} {clist_0 : Nat} {alow_1 : Option Addr} {clow_1 : Nat} {ahigh_2 : Option Addr} {chigh_2 : Nat} {r : (List Int)} (h : M.spec_InBox list_0 low_1 high_2 = some r) :
    Cal2 Try.prog 31 [(Sl alist_0 list_0 clist_0), (Sl alow_1 low_1 clow_1), (Sl ahigh_2 high_2 chigh_2)] [Ch.ro 0 (Sl alist_0 list_0 clist_0) list_0, Ch.ro 0 (Sl alow_1 low_1 clow_1) low_1, Ch.ro 0 (Sl ahigh_2 high_2 chigh_2) high_2] (fun n0 v L => ∃ (az1 : Option Addr), ∃ (cz2 : Nat), v = (Sl az1 r cz2) ∧ L = [Ch.own n0 n0 (Sl az1 r cz2) r]) := by
  refine cal2 (n := 65) Try.func31 rfl rfl rfl rfl ?_
  intro S0 σ0 n0 hn0 H
  unfold M.spec_InBox at h
  refine c_seq ?_
  refine rg ?_
  refine st (v := (.slice none 0 0)) (rv_assign rfl) ?_
  refine w_end ?_
  refine q_then ?_
  refine c_seq ?_
  refine rg ?_
  refine st_ex (ex_buildSlice (el := n0) (xs := ([] : List Int)) (ps := []) (cs := []) H hn0 Try.underlying25 ti3 rfl rfl (by kernel_rfl) (.nil) rfl) (wanted_none _ rfl _) ?_
  rintro _ σ2 ⟨b1, rfl, H, -⟩
  refine st (v := (Sl (some ⟨b1, 0, none⟩) ([] : List Int) 0)) (rv_assign rfl) ?_
  refine w_end ?_
  refine q_then ?_
  refine c_seq ?_
  refine c_seq ?_
  obtain ⟨o3, hj, h'⟩ := bind_some h
  clear h
  refine c_cut (fun e a w => e = .normal ∧ ∃ (ρ : Nat → Value) (σ : St), a = fr 65 (updL ρ [(0, (Sl alist_0 list_0 clist_0)), (1, (Sl alow_1 low_1 clow_1)), (2, (Sl ahigh_2 high_2 chigh_2)), (7, (Sl (some ⟨b1, 0, none⟩) ([] : List Int) 0)), (24, (B o3))]) ∧ w = σ.w ∧ Hp S0 σ0 σ [Ch.ro 0 (Sl alist_0 list_0 clist_0) list_0, Ch.ro 0 (Sl alow_1 low_1 clow_1) low_1, Ch.ro 0 (Sl ahigh_2 high_2 chigh_2) high_2, Ch.own n0 n0 (Sl (some ⟨b1, 0, none⟩) ([] : List Int) 0) ([] : List Int)]) ?_ ?_
  · clear h'
    rename _ = some o3 => h
    refine rg ?_
    refine st (v := (Sl alist_0 list_0 clist_0)) (rv_move rfl) ?_
    obtain ⟨r4, hx5, h'⟩ := bind_some h
    clear h
    have h := h'; clear h'
    have hc6 := c_spec_validStore (alist_0 := alist_0) (clist_0 := clist_0) hx5
    refine st_call (cx_call hc6 (ent_f hc6.fn rfl) hn0 (show Hp S0 σ0 _ ([Ch.ro 0 (Sl alist_0 list_0 clist_0) list_0] ++ [Ch.own n0 n0 (Sl (some ⟨b1, 0, none⟩) ([] : List Int) 0) ([] : List Int), Ch.ro 0 (Sl alist_0 list_0 clist_0) list_0, Ch.ro 0 (Sl alow_1 low_1 clow_1) low_1, Ch.ro 0 (Sl ahigh_2 high_2 chigh_2) high_2]) from (H.sel' [1, 0, 1, 2, 3] rfl rfl))) (wanted_none _ rfl _) ?_
    rintro _ σ7 ⟨_, ⟨rfl, rfl⟩, H, -⟩
    replace H : Hp S0 σ0 σ7 [Ch.own n0 n0 (Sl (some ⟨b1, 0, none⟩) ([] : List Int) 0) ([] : List Int), Ch.ro 0 (Sl alist_0 list_0 clist_0) list_0, Ch.ro 0 (Sl alow_1 low_1 clow_1) low_1, Ch.ro 0 (Sl ahigh_2 high_2 chigh_2) high_2] := H
    refine st (v := (B (!r4))) (rv_not rfl) ?_
    refine st (v := (B (!r4))) (rv_move rfl) ?_
    rcases Bool.eq_false_or_eq_true (!r4) with hb8 | hb8
    · replace h := bif_t hb8 h
      refine st_skip (congrArg some hb8) ?_
      refine st_skip (congrArg some hb8) ?_
      refine st_skip (congrArg some hb8) ?_
      refine st (v := (B true)) (rv_pick_t (congrArg B hb8) rfl) ?_
      refine st (v := (B true)) (rv_move rfl) ?_
      refine st_skip rfl ?_
      refine st_skip rfl ?_
      refine st_skip rfl ?_
      refine st (v := (B true)) (rv_pick_t rfl rfl) ?_
      refine w_end ?_
      obtain rfl := Option.some.inj h
      exact ⟨rfl, _, σ7, fr_join ⟨rfl, rfl, rfl, rfl, rfl, trivial⟩, rfl, H.sel' [1, 2, 3, 0] rfl rfl⟩
    · replace h := bif_f hb8 h
      refine st_g (v := (Sl alow_1 low_1 clow_1)) (congrArg some hb8) (rv_move rfl) ?_
      obtain ⟨r9, hx10, h'⟩ := bind_some h
      clear h
      have h := h'; clear h'
      have hc11 := c_spec_isVector (av_0 := alow_1) (cv_0 := clow_1) hx10
      refine st_call (cx_call hc11 (ent_f hc11.fn rfl) hn0 (show Hp S0 σ0 _ ([Ch.ro 0 (Sl alow_1 low_1 clow_1) low_1] ++ [Ch.own n0 n0 (Sl (some ⟨b1, 0, none⟩) ([] : List Int) 0) ([] : List Int), Ch.ro 0 (Sl alist_0 list_0 clist_0) list_0, Ch.ro 0 (Sl alow_1 low_1 clow_1) low_1, Ch.ro 0 (Sl ahigh_2 high_2 chigh_2) high_2]) from (H.sel' [2, 0, 1, 2, 3] rfl rfl))) (wanted_yes rfl (by exact (congrArg some hb8))) ?_
      rintro _ σ12 ⟨_, ⟨rfl, rfl⟩, H, -⟩
      replace H : Hp S0 σ0 σ12 [Ch.own n0 n0 (Sl (some ⟨b1, 0, none⟩) ([] : List Int) 0) ([] : List Int), Ch.ro 0 (Sl alist_0 list_0 clist_0) list_0, Ch.ro 0 (Sl alow_1 low_1 clow_1) low_1, Ch.ro 0 (Sl ahigh_2 high_2 chigh_2) high_2] := H
      refine st_g (v := (B (!r9))) (congrArg some hb8) (rv_not rfl) ?_
      refine st (v := (B (!r9))) (rv_pick_f (congrArg B hb8) rfl) ?_
      refine st (v := (B (!r9))) (rv_move rfl) ?_
      rcases Bool.eq_false_or_eq_true (!r9) with hb13 | hb13
      · replace h := bif_t hb13 h
        refine st_skip (congrArg some hb13) ?_
        refine st_skip (congrArg some hb13) ?_
        refine st_skip (congrArg some hb13) ?_
        refine st (v := (B true)) (rv_pick_t (congrArg B hb13) rfl) ?_
        refine w_end ?_
        obtain rfl := Option.some.inj h
        exact ⟨rfl, _, σ12, fr_join ⟨rfl, rfl, rfl, rfl, rfl, trivial⟩, rfl, H.sel' [1, 2, 3, 0] rfl rfl⟩
      · replace h := bif_f hb13 h
        refine st_g (v := (Sl ahigh_2 high_2 chigh_2)) (congrArg some hb13) (rv_move rfl) ?_
        obtain ⟨r14, hx15, h'⟩ := bind_some h
        clear h
        have h := h'; clear h'
        have hc16 := c_spec_isVector (av_0 := ahigh_2) (cv_0 := chigh_2) hx15
        refine st_call (cx_call hc16 (ent_f hc16.fn rfl) hn0 (show Hp S0 σ0 _ ([Ch.ro 0 (Sl ahigh_2 high_2 chigh_2) high_2] ++ [Ch.own n0 n0 (Sl (some ⟨b1, 0, none⟩) ([] : List Int) 0) ([] : List Int), Ch.ro 0 (Sl alist_0 list_0 clist_0) list_0, Ch.ro 0 (Sl alow_1 low_1 clow_1) low_1, Ch.ro 0 (Sl ahigh_2 high_2 chigh_2) high_2]) from (H.sel' [3, 0, 1, 2, 3] rfl rfl))) (wanted_yes rfl (by exact (congrArg some hb13))) ?_
        rintro _ σ17 ⟨_, ⟨rfl, rfl⟩, H, -⟩
        replace H : Hp S0 σ0 σ17 [Ch.own n0 n0 (Sl (some ⟨b1, 0, none⟩) ([] : List Int) 0) ([] : List Int), Ch.ro 0 (Sl alist_0 list_0 clist_0) list_0, Ch.ro 0 (Sl alow_1 low_1 clow_1) low_1, Ch.ro 0 (Sl ahigh_2 high_2 chigh_2) high_2] := H
        refine st_g (v := (B (!r14))) (congrArg some hb13) (rv_not rfl) ?_
        refine st (v := (B (!r14))) (rv_pick_f (congrArg B hb13) rfl) ?_
        refine w_end ?_
        obtain rfl := Option.some.inj h
        exact ⟨rfl, _, σ17, fr_join ⟨rfl, rfl, rfl, rfl, rfl, trivial⟩, rfl, H.sel' [1, 2, 3, 0] rfl rfl⟩
  · clear hj
    have h := h'
    clear h' H
    rintro e a w ⟨rfl, ρ, σ18, rfl, rfl, H⟩
    refine q_then ?_
    refine cd_cond o3 rfl (fun hb19 => ?_) (fun hb19 => ?_)
    · replace h := bif_t hb19 h
      refine c_seq ?_
      refine rg ?_
      refine st (v := (.slice none 0 0)) (rv_assign rfl) ?_
      refine w_end ?_
      refine q_then ?_
      refine c_ret ?_
      refine q_then_r ?_
      replace H := H.nilOwn Int n0 n0
      obtain rfl := Option.some.inj h
      exact fin_ret (v := (.slice none 0 0)) (results_ok Try.results31 (res_tmp (v := (.slice none 0 0)) rfl res_nil) rfl) ⟨none, 0, rfl, rfl⟩ (H.sel' [0] rfl rfl)
    · replace h := bif_f hb19 h
      refine c_skip ?_
      refine q_then ?_
      refine c_seq ?_
      refine c_seq ?_
      refine rg ?_
      refine st (v := (I 0)) (rv_assign rfl) ?_
      refine w_end ?_
      refine q_then ?_
      obtain ⟨o20, hj, h'⟩ := bind_some h
      clear h
      refine c_cut (fun e a w => e = .normal ∧ ∃ (ρ : Nat → Value) (σ : St) (aj1 : Option Addr) (cj2 : Nat), a = fr 65 (updL ρ [(7, (Sl aj1 o20 cj2))]) ∧ w = σ.w ∧ Hp S0 σ0 σ [Ch.own n0 n0 (Sl aj1 o20 cj2) o20]) ?_ ?_
      · clear h'
        rename _ = some o20 => h
        refine c_blk ?_
        refine wp_loopM _ h (fun s21 a w => ∃ (ρ : Nat → Value) (σ : St) (aj1 : Option Addr) (cj2 : Nat), a = fr 65 (updL ρ [(0, (Sl alist_0 list_0 clist_0)), (1, (Sl alow_1 low_1 clow_1)), (2, (Sl ahigh_2 high_2 chigh_2)), (7, (Sl aj1 s21.1 cj2)), (8, (I s21.2))]) ∧ w = σ.w ∧ Hp S0 σ0 σ [Ch.ro 0 (Sl alist_0 list_0 clist_0) list_0, Ch.ro 0 (Sl alow_1 low_1 clow_1) low_1, Ch.ro 0 (Sl ahigh_2 high_2 chigh_2) high_2, Ch.own n0 n0 (Sl aj1 s21.1 cj2) s21.1]) ⟨_, σ18, (some ⟨b1, 0, none⟩), 0, fr_join ⟨rfl, rfl, rfl, rfl, rfl, trivial⟩, rfl, H.sel' [0, 1, 2, 3] rfl rfl⟩ ?_
        clear h H
        rintro s21 a w o ⟨ρ, σ22, a23, c24, rfl, rfl, H⟩ h hres
        refine c_seq ?_
        refine c_seq ?_
        refine rg ?_
        refine st (v := (I s21.2)) (rv_move rfl) ?_
        refine st (v := (Sl alist_0 list_0 clist_0)) (rv_move rfl) ?_
        refine st (v := (I (list_0.length : Int))) (rv_len Try.underlying23 rfl) ?_
        refine st (v := (B (decide (s21.2 < (list_0.length : Int))))) (rv_lss (a := s21.2) (b := (list_0.length : Int)) rfl rfl) ?_
        refine w_end ?_
        refine q_then ?_
        refine cd_cond (decide (s21.2 < (list_0.length : Int))) rfl (fun hb25 => ?_) (fun hb25 => ?_)
        · replace h := bif_t hb25 h
          refine c_skip ?_
          refine q_then ?_
          refine c_seq ?_
          obtain ⟨o26, hj, h'⟩ := bind_some h
          clear h
          refine c_cut (fun e a w => e = .normal ∧ ∃ (ρ : Nat → Value) (σ : St) (aj1 : Option Addr) (cj2 : Nat), a = fr 65 (updL ρ [(0, (Sl alist_0 list_0 clist_0)), (1, (Sl alow_1 low_1 clow_1)), (2, (Sl ahigh_2 high_2 chigh_2)), (7, (Sl aj1 o26 cj2)), (8, (I s21.2))]) ∧ w = σ.w ∧ Hp S0 σ0 σ [Ch.ro 0 (Sl alist_0 list_0 clist_0) list_0, Ch.ro 0 (Sl alow_1 low_1 clow_1) low_1, Ch.ro 0 (Sl ahigh_2 high_2 chigh_2) high_2, Ch.own n0 n0 (Sl aj1 o26 cj2) o26]) ?_ ?_
          · clear h'
            rename _ = some o26 => h
            refine c_blk ?_
            refine c_seq ?_
            refine rg ?_
            refine st (v := (B true)) (rv_assign rfl) ?_
            refine w_end ?_
            refine q_then ?_
            refine c_seq ?_
            refine c_seq ?_
            refine rg ?_
            refine st (v := (I 0)) (rv_assign rfl) ?_
            refine w_end ?_
            refine q_then ?_
            obtain ⟨o27, hj, h'⟩ := bind_some h
            clear h
            refine c_cut (fun e a w => e = .normal ∧ ∃ (ρ : Nat → Value) (σ : St), a = fr 65 (updL ρ [(0, (Sl alist_0 list_0 clist_0)), (1, (Sl alow_1 low_1 clow_1)), (2, (Sl ahigh_2 high_2 chigh_2)), (7, (Sl a23 s21.1 c24)), (8, (I s21.2)), (9, (B o27))]) ∧ w = σ.w ∧ Hp S0 σ0 σ [Ch.ro 0 (Sl alist_0 list_0 clist_0) list_0, Ch.ro 0 (Sl alow_1 low_1 clow_1) low_1, Ch.ro 0 (Sl ahigh_2 high_2 chigh_2) high_2, Ch.own n0 n0 (Sl a23 s21.1 c24) s21.1]) ?_ ?_
            · clear h'
              rename _ = some o27 => h
              refine c_blk ?_
              refine wp_loopM _ h (fun s28 a w => ∃ (ρ : Nat → Value) (σ : St), a = fr 65 (updL ρ [(0, (Sl alist_0 list_0 clist_0)), (1, (Sl alow_1 low_1 clow_1)), (2, (Sl ahigh_2 high_2 chigh_2)), (7, (Sl a23 s21.1 c24)), (8, (I s21.2)), (9, (B s28.1)), (10, (I s28.2))]) ∧ w = σ.w ∧ Hp S0 σ0 σ [Ch.ro 0 (Sl alist_0 list_0 clist_0) list_0, Ch.ro 0 (Sl alow_1 low_1 clow_1) low_1, Ch.ro 0 (Sl ahigh_2 high_2 chigh_2) high_2, Ch.own n0 n0 (Sl a23 s21.1 c24) s21.1]) ⟨_, σ22, fr_join ⟨rfl, rfl, rfl, rfl, rfl, rfl, rfl, trivial⟩, rfl, H.sel' [0, 1, 2, 3] rfl rfl⟩ ?_
              clear h H
              rintro s28 a w o ⟨ρ, σ29, rfl, rfl, H⟩ h hres
              refine c_seq ?_
              refine c_seq ?_
              refine rg ?_
              refine st (v := (I s28.2)) (rv_move rfl) ?_
              refine st (v := (B (decide (s28.2 < 4)))) (rv_lss (a := s28.2) (b := 4) rfl rfl) ?_
              refine w_end ?_
              refine q_then ?_
              refine cd_cond (decide (s28.2 < 4)) rfl (fun hb30 => ?_) (fun hb30 => ?_)
              · replace h := bif_t hb30 h
                refine c_skip ?_
                refine q_then ?_
                refine c_seq ?_
                refine c_blk ?_
                obtain ⟨o31, hj, h'⟩ := bind_some h
                clear h
                refine c_cut (fun e a w => e = .normal ∧ ∃ (ρ : Nat → Value) (σ : St), a = fr 65 (updL ρ [(0, (Sl alist_0 list_0 clist_0)), (1, (Sl alow_1 low_1 clow_1)), (2, (Sl ahigh_2 high_2 chigh_2)), (7, (Sl a23 s21.1 c24)), (8, (I s21.2)), (9, (B o31)), (10, (I s28.2))]) ∧ w = σ.w ∧ Hp S0 σ0 σ [Ch.ro 0 (Sl alist_0 list_0 clist_0) list_0, Ch.ro 0 (Sl alow_1 low_1 clow_1) low_1, Ch.ro 0 (Sl ahigh_2 high_2 chigh_2) high_2, Ch.own n0 n0 (Sl a23 s21.1 c24) s21.1]) ?_ ?_
                · clear h'
                  rename _ = some o31 => h
                  rcases Bool.eq_false_or_eq_true s28.1 with hb32 | hb32
                  · replace h := bif_t hb32 h
                    obtain ⟨x33, hx34, h'⟩ := bind_some h
                    clear h
                    have h := h'; clear h'
                    obtain ⟨b36, o37, hi35, -⟩ := (H.ro 0 rfl).ix hx34
                    obtain ⟨v41, hc42, hR40⟩ := ((H.ro 0 rfl).at hx34 hi35).snd.fst.slice
                    obtain ⟨a38, c39, rfl⟩ := hR40.isSl
                    replace H := H.add (d := Ch.ro 0 (Sl a38 x33.2.1 c39) x33.2.1) hR40 (fun _ h => h)
                    clear hR40
                    obtain ⟨x43, hx44, h'⟩ := bind_some h
                    clear h
                    have h := h'; clear h'
                    obtain ⟨b46, o47, hi45, -⟩ := (H.ro 0 rfl).ix hx44
                    have hc48 := ((H.ro 0 rfl).at hx44 hi45).int
                    obtain ⟨x49, hx50, h'⟩ := bind_some h
                    clear h
                    have h := h'; clear h'
                    obtain ⟨b52, o53, hi51, -⟩ := (H.ro 2 rfl).ix hx50
                    have hc54 := ((H.ro 2 rfl).at hx50 hi51).int
                    obtain ⟨x55, hx56, h'⟩ := bind_some h
                    clear h
                    have h := h'; clear h'
                    obtain ⟨b58, o59, hi57, -⟩ := (H.ro 3 rfl).ix hx56
                    have hc60 := ((H.ro 3 rfl).at hx56 hi57).int
                    have Hs := H
                    refine rg2 (σ := σ29) (Nm := Unit) 18 [] [[]] [[(0, 0)], [(0, 0)], [(0, 0)], [(0, 0)], [(0, 0)], [(0, 0)], [(0, 0)], [(0, 0)], [(0, 0)], [(0, 0)], [(0, 0)], [(0, 0)], [(0, 0)], [(0, 0)], [(0, 0)], [(0, 0)], [(0, 0)], [(0, 0)]] 0 [fun (_nm : Unit) => fun σm => Hp S0 σ0 σm [Ch.ro 0 (Sl a38 x33.2.1 c39) x33.2.1, Ch.ro 0 (Sl alist_0 list_0 clist_0) list_0, Ch.ro 0 (Sl alow_1 low_1 clow_1) low_1, Ch.ro 0 (Sl ahigh_2 high_2 chigh_2) high_2, Ch.own n0 n0 (Sl a23 s21.1 c24) s21.1] ∧ Md (cov []) σ29 σm] [fun (_nm : Unit) => (B s28.1), fun (_nm : Unit) => (B s28.1), fun (_nm : Unit) => (Sl alist_0 list_0 clist_0), fun (_nm : Unit) => (I s21.2), fun (_nm : Unit) => (pt b36 o37), fun (_nm : Unit) => (pt b36 (o37 + 1)), fun (_nm : Unit) => (Sl a38 x33.2.1 c39), fun (_nm : Unit) => (I s28.2), fun (_nm : Unit) => (pt b46 o47), fun (_nm : Unit) => (I x43), fun (_nm : Unit) => (Sl alow_1 low_1 clow_1), fun (_nm : Unit) => (I s28.2), fun (_nm : Unit) => (pt b52 o53), fun (_nm : Unit) => (I x49), fun (_nm : Unit) => (Sl ahigh_2 high_2 chigh_2), fun (_nm : Unit) => (I s28.2), fun (_nm : Unit) => (pt b58 o59), fun (_nm : Unit) => (I x55)] () (by kernel_rfl) (by kernel_rfl) ?_ ?_ ?_
                    · intro σm m0
                      exact ⟨H.grow (m0.mono fun _ h => h.elim), m0⟩
                    · refine all_cons (obs_v rfl (by
                          intro k; intro _nm ρ σm hJ hoff hdep
                          have e9 : look 65 ρ 9 = (B s28.1) := look_off (hoff 9 rfl) rfl
                          exact dp_v (v := (B s28.1)) (wanted_none _ rfl _) (rv_move e9) rfl hJ)) ?_
                      refine all_cons (obs_v rfl (by
                          intro k; intro _nm ρ σm hJ hoff hdep
                          have e35 : look 65 ρ 35 = (B s28.1) := hdep 0 rfl rfl 35 rfl
                          exact dp_v (v := (B s28.1)) (wanted_none _ rfl _) (rv_move e35) rfl hJ)) ?_
                      refine all_cons (obs_v rfl (by
                          intro k; intro _nm ρ σm hJ hoff hdep
                          have e0 : look 65 ρ 0 = (Sl alist_0 list_0 clist_0) := look_off (hoff 0 rfl) rfl
                          have e36 : look 65 ρ 36 = (B s28.1) := hdep 1 rfl rfl 36 rfl
                          exact dp_v (v := (Sl alist_0 list_0 clist_0)) (wanted_yes rfl (yv_of rfl (e36.trans (congrArg B hb32)))) (rv_move e0) rfl hJ)) ?_
                      refine all_cons (obs_v rfl (by
                          intro k; intro _nm ρ σm hJ hoff hdep
                          have e8 : look 65 ρ 8 = (I s21.2) := look_off (hoff 8 rfl) rfl
                          have e36 : look 65 ρ 36 = (B s28.1) := hdep 1 rfl rfl 36 rfl
                          exact dp_v (v := (I s21.2)) (wanted_yes rfl (yv_of rfl (e36.trans (congrArg B hb32)))) (rv_move e8) rfl hJ)) ?_
                      refine all_cons (obs_v rfl (by
                          intro k; intro _nm ρ σm hJ hoff hdep
                          have e37 : look 65 ρ 37 = (Sl alist_0 list_0 clist_0) := hdep 2 rfl rfl 37 rfl
                          have e38 : look 65 ρ 38 = (I s21.2) := hdep 3 rfl rfl 38 rfl
                          have e36 : look 65 ρ 36 = (B s28.1) := hdep 1 rfl rfl 36 rfl
                          exact dp_v (v := (pt b36 o37)) (wanted_yes rfl (yv_of rfl (e36.trans (congrArg B hb32)))) (rv_ix Try.underlying23 ti38 e37 e38 hi35) rfl hJ)) ?_
                      refine all_cons (obs_v rfl (by
                          intro k; intro _nm ρ σm hJ hoff hdep
                          have e39 : look 65 ρ 39 = (pt b36 o37) := hdep 4 rfl rfl 39 rfl
                          have e36 : look 65 ρ 36 = (B s28.1) := hdep 1 rfl rfl 36 rfl
                          exact dp_v (v := (pt b36 (o37 + 1))) (wanted_yes rfl (yv_of rfl (e36.trans (congrArg B hb32)))) (rv_fieldAddr (off := 1) (ft := 25) Try.underlying38 rfl ti25 rfl e39) rfl hJ)) ?_
                      refine all_cons (by
                          refine ⟨?_, ?_⟩
                          · intro _nm ρ σm hJ hoff hdep
                            have e40 : look 65 ρ 40 = (pt b36 (o37 + 1)) := hdep 5 rfl rfl 40 rfl
                            have e36 : look 65 ρ 36 = (B s28.1) := hdep 1 rfl rfl 36 rfl
                            obtain ⟨H, m⟩ := (show Hp S0 σ0 σm [Ch.ro 0 (Sl a38 x33.2.1 c39) x33.2.1, Ch.ro 0 (Sl alist_0 list_0 clist_0) list_0, Ch.ro 0 (Sl alow_1 low_1 clow_1) low_1, Ch.ro 0 (Sl ahigh_2 high_2 chigh_2) high_2, Ch.own n0 n0 (Sl a23 s21.1 c24) s21.1] ∧ Md (cov []) σ29 σm from hJ)
                            replace hc42 := (Hs.ro 1 rfl).hmd hx34 hi35 (k := 1) (by decide) hc42 m
                            exact dp_v (v := (Sl a38 x33.2.1 c39)) (wanted_yes rfl (yv_of rfl (e36.trans (congrArg B hb32)))) (rv_load1 Try.underlying25 rfl e40 hc42) rfl hJ
                          trivial) ?_
                      refine all_cons (obs_v rfl (by
                          intro k; intro _nm ρ σm hJ hoff hdep
                          have e10 : look 65 ρ 10 = (I s28.2) := look_off (hoff 10 rfl) rfl
                          have e36 : look 65 ρ 36 = (B s28.1) := hdep 1 rfl rfl 36 rfl
                          exact dp_v (v := (I s28.2)) (wanted_yes rfl (yv_of rfl (e36.trans (congrArg B hb32)))) (rv_move e10) rfl hJ)) ?_
                      refine all_cons (obs_v rfl (by
                          intro k; intro _nm ρ σm hJ hoff hdep
                          have e41 : look 65 ρ 41 = (Sl a38 x33.2.1 c39) := hdep 6 rfl rfl 41 rfl
                          have e42 : look 65 ρ 42 = (I s28.2) := hdep 7 rfl rfl 42 rfl
                          have e36 : look 65 ρ 36 = (B s28.1) := hdep 1 rfl rfl 36 rfl
                          exact dp_v (v := (pt b46 o47)) (wanted_yes rfl (yv_of rfl (e36.trans (congrArg B hb32)))) (rv_ix Try.underlying25 ti3 e41 e42 hi45) rfl hJ)) ?_
                      refine all_cons (by
                          refine ⟨?_, ?_⟩
                          · intro _nm ρ σm hJ hoff hdep
                            have e43 : look 65 ρ 43 = (pt b46 o47) := hdep 8 rfl rfl 43 rfl
                            have e36 : look 65 ρ 36 = (B s28.1) := hdep 1 rfl rfl 36 rfl
                            obtain ⟨H, m⟩ := (show Hp S0 σ0 σm [Ch.ro 0 (Sl a38 x33.2.1 c39) x33.2.1, Ch.ro 0 (Sl alist_0 list_0 clist_0) list_0, Ch.ro 0 (Sl alow_1 low_1 clow_1) low_1, Ch.ro 0 (Sl ahigh_2 high_2 chigh_2) high_2, Ch.own n0 n0 (Sl a23 s21.1 c24) s21.1] ∧ Md (cov []) σ29 σm from hJ)
                            replace hc48 := (Hs.ro 0 rfl).hmd hx44 hi45 (k := 0) (by decide) hc48 m
                            exact dp_v (v := (I x43)) (wanted_yes rfl (yv_of rfl (e36.trans (congrArg B hb32)))) (rv_load1 Try.underlying3 rfl e43 hc48) rfl hJ
                          trivial) ?_
                      refine all_cons (obs_v rfl (by
                          intro k; intro _nm ρ σm hJ hoff hdep
                          have e1 : look 65 ρ 1 = (Sl alow_1 low_1 clow_1) := look_off (hoff 1 rfl) rfl
                          have e36 : look 65 ρ 36 = (B s28.1) := hdep 1 rfl rfl 36 rfl
                          exact dp_v (v := (Sl alow_1 low_1 clow_1)) (wanted_yes rfl (yv_of rfl (e36.trans (congrArg B hb32)))) (rv_move e1) rfl hJ)) ?_
                      refine all_cons (obs_v rfl (by
                          intro k; intro _nm ρ σm hJ hoff hdep
                          have e10 : look 65 ρ 10 = (I s28.2) := look_off (hoff 10 rfl) rfl
                          have e36 : look 65 ρ 36 = (B s28.1) := hdep 1 rfl rfl 36 rfl
                          exact dp_v (v := (I s28.2)) (wanted_yes rfl (yv_of rfl (e36.trans (congrArg B hb32)))) (rv_move e10) rfl hJ)) ?_
                      refine all_cons (obs_v rfl (by
                          intro k; intro _nm ρ σm hJ hoff hdep
                          have e45 : look 65 ρ 45 = (Sl alow_1 low_1 clow_1) := hdep 10 rfl rfl 45 rfl
                          have e46 : look 65 ρ 46 = (I s28.2) := hdep 11 rfl rfl 46 rfl
                          have e36 : look 65 ρ 36 = (B s28.1) := hdep 1 rfl rfl 36 rfl
                          exact dp_v (v := (pt b52 o53)) (wanted_yes rfl (yv_of rfl (e36.trans (congrArg B hb32)))) (rv_ix Try.underlying25 ti3 e45 e46 hi51) rfl hJ)) ?_
                      refine all_cons (by
                          refine ⟨?_, ?_⟩
                          · intro _nm ρ σm hJ hoff hdep
                            have e47 : look 65 ρ 47 = (pt b52 o53) := hdep 12 rfl rfl 47 rfl
                            have e36 : look 65 ρ 36 = (B s28.1) := hdep 1 rfl rfl 36 rfl
                            obtain ⟨H, m⟩ := (show Hp S0 σ0 σm [Ch.ro 0 (Sl a38 x33.2.1 c39) x33.2.1, Ch.ro 0 (Sl alist_0 list_0 clist_0) list_0, Ch.ro 0 (Sl alow_1 low_1 clow_1) low_1, Ch.ro 0 (Sl ahigh_2 high_2 chigh_2) high_2, Ch.own n0 n0 (Sl a23 s21.1 c24) s21.1] ∧ Md (cov []) σ29 σm from hJ)
                            replace hc54 := (Hs.ro 2 rfl).hmd hx50 hi51 (k := 0) (by decide) hc54 m
                            exact dp_v (v := (I x49)) (wanted_yes rfl (yv_of rfl (e36.trans (congrArg B hb32)))) (rv_load1 Try.underlying3 rfl e47 hc54) rfl hJ
                          trivial) ?_
                      refine all_cons (obs_v rfl (by
                          intro k; intro _nm ρ σm hJ hoff hdep
                          have e2 : look 65 ρ 2 = (Sl ahigh_2 high_2 chigh_2) := look_off (hoff 2 rfl) rfl
                          have e36 : look 65 ρ 36 = (B s28.1) := hdep 1 rfl rfl 36 rfl
                          exact dp_v (v := (Sl ahigh_2 high_2 chigh_2)) (wanted_yes rfl (yv_of rfl (e36.trans (congrArg B hb32)))) (rv_move e2) rfl hJ)) ?_
                      refine all_cons (obs_v rfl (by
                          intro k; intro _nm ρ σm hJ hoff hdep
                          have e10 : look 65 ρ 10 = (I s28.2) := look_off (hoff 10 rfl) rfl
                          have e36 : look 65 ρ 36 = (B s28.1) := hdep 1 rfl rfl 36 rfl
                          exact dp_v (v := (I s28.2)) (wanted_yes rfl (yv_of rfl (e36.trans (congrArg B hb32)))) (rv_move e10) rfl hJ)) ?_
                      refine all_cons (obs_v rfl (by
                          intro k; intro _nm ρ σm hJ hoff hdep
                          have e49 : look 65 ρ 49 = (Sl ahigh_2 high_2 chigh_2) := hdep 14 rfl rfl 49 rfl
                          have e50 : look 65 ρ 50 = (I s28.2) := hdep 15 rfl rfl 50 rfl
                          have e36 : look 65 ρ 36 = (B s28.1) := hdep 1 rfl rfl 36 rfl
                          exact dp_v (v := (pt b58 o59)) (wanted_yes rfl (yv_of rfl (e36.trans (congrArg B hb32)))) (rv_ix Try.underlying25 ti3 e49 e50 hi57) rfl hJ)) ?_
                      refine all_cons (by
                          refine ⟨?_, ?_⟩
                          · intro _nm ρ σm hJ hoff hdep
                            have e51 : look 65 ρ 51 = (pt b58 o59) := hdep 16 rfl rfl 51 rfl
                            have e36 : look 65 ρ 36 = (B s28.1) := hdep 1 rfl rfl 36 rfl
                            obtain ⟨H, m⟩ := (show Hp S0 σ0 σm [Ch.ro 0 (Sl a38 x33.2.1 c39) x33.2.1, Ch.ro 0 (Sl alist_0 list_0 clist_0) list_0, Ch.ro 0 (Sl alow_1 low_1 clow_1) low_1, Ch.ro 0 (Sl ahigh_2 high_2 chigh_2) high_2, Ch.own n0 n0 (Sl a23 s21.1 c24) s21.1] ∧ Md (cov []) σ29 σm from hJ)
                            replace hc60 := (Hs.ro 3 rfl).hmd hx56 hi57 (k := 0) (by decide) hc60 m
                            exact dp_v (v := (I x55)) (wanted_yes rfl (yv_of rfl (e36.trans (congrArg B hb32)))) (rv_load1 Try.underlying3 rfl e51 hc60) rfl hJ
                          trivial) ?_
                      exact all_nil
                    · intro _nm ρ σ61 hJ hoff hrel
                      have e0 : look 65 ρ 0 = (Sl alist_0 list_0 clist_0) := look_off (hoff 0 rfl) rfl
                      have e1 : look 65 ρ 1 = (Sl alow_1 low_1 clow_1) := look_off (hoff 1 rfl) rfl
                      have e2 : look 65 ρ 2 = (Sl ahigh_2 high_2 chigh_2) := look_off (hoff 2 rfl) rfl
                      have e7 : look 65 ρ 7 = (Sl a23 s21.1 c24) := look_off (hoff 7 rfl) rfl
                      have e8 : look 65 ρ 8 = (I s21.2) := look_off (hoff 8 rfl) rfl
                      have e10 : look 65 ρ 10 = (I s28.2) := look_off (hoff 10 rfl) rfl
                      have e36 : look 65 ρ 36 = (B s28.1) := hrel 1 rfl 36 rfl
                      have e44 : look 65 ρ 44 = (I x43) := hrel 9 rfl 44 rfl
                      have e48 : look 65 ρ 48 = (I x49) := hrel 13 rfl 48 rfl
                      have e52 : look 65 ρ 52 = (I x55) := hrel 17 rfl 52 rfl
                      obtain ⟨H, -⟩ := (show Hp S0 σ0 σ61 [Ch.ro 0 (Sl a38 x33.2.1 c39) x33.2.1, Ch.ro 0 (Sl alist_0 list_0 clist_0) list_0, Ch.ro 0 (Sl alow_1 low_1 clow_1) low_1, Ch.ro 0 (Sl ahigh_2 high_2 chigh_2) high_2, Ch.own n0 n0 (Sl a23 s21.1 c24) s21.1] ∧ Md (cov []) σ29 σ61 from hJ)
                      clear hJ Hs
                      rw [fr_lookL (L := [(0, (Sl alist_0 list_0 clist_0)), (1, (Sl alow_1 low_1 clow_1)), (2, (Sl ahigh_2 high_2 chigh_2)), (7, (Sl a23 s21.1 c24)), (8, (I s21.2)), (10, (I s28.2)), (36, (B s28.1)), (44, (I x43)), (48, (I x49)), (52, (I x55))]) ⟨e0, e1, e2, e7, e8, e10, e36, e44, e48, e52, trivial⟩]
                      clear hoff hrel e0 e1 e2 e7 e8 e10 e36 e44 e48 e52
                      obtain ⟨r62, hx63, h'⟩ := bind_some h
                      clear h
                      have h := h'; clear h'
                      have hc64 := c_spec_inRange hx63
                      refine st_call (cx_call hc64 (ent_f hc64.fn rfl) hn0 (show Hp S0 σ0 _ ([] ++ [Ch.ro 0 (Sl a38 x33.2.1 c39) x33.2.1, Ch.ro 0 (Sl alist_0 list_0 clist_0) list_0, Ch.ro 0 (Sl alow_1 low_1 clow_1) low_1, Ch.ro 0 (Sl ahigh_2 high_2 chigh_2) high_2, Ch.own n0 n0 (Sl a23 s21.1 c24) s21.1]) from (H.sel' [0, 1, 2, 3, 4] rfl rfl))) (wanted_yes rfl (by exact (congrArg some hb32))) ?_
                      rintro _ σ65 ⟨_, ⟨rfl, rfl⟩, H, -⟩
                      replace H : Hp S0 σ0 σ65 [Ch.ro 0 (Sl a38 x33.2.1 c39) x33.2.1, Ch.ro 0 (Sl alist_0 list_0 clist_0) list_0, Ch.ro 0 (Sl alow_1 low_1 clow_1) low_1, Ch.ro 0 (Sl ahigh_2 high_2 chigh_2) high_2, Ch.own n0 n0 (Sl a23 s21.1 c24) s21.1] := H
                      refine st (v := (B r62)) (rv_pick_t (congrArg B hb32) rfl) ?_
                      refine st (v := (B r62)) (rv_assign rfl) ?_
                      refine w_end ?_
                      obtain rfl := Option.some.inj h
                      exact ⟨rfl, _, σ65, fr_join ⟨rfl, rfl, rfl, rfl, rfl, rfl, rfl, trivial⟩, rfl, H.sel' [1, 2, 3, 4] rfl rfl⟩
                  · replace h := bif_f hb32 h
                    have Hs := H
                    refine rg2 (σ := σ29) (Nm := Unit) 18 [] [[]] [[(0, 0)], [(0, 0)], [(0, 0)], [(0, 0)], [(0, 0)], [(0, 0)], [(0, 0)], [(0, 0)], [(0, 0)], [(0, 0)], [(0, 0)], [(0, 0)], [(0, 0)], [(0, 0)], [(0, 0)], [(0, 0)], [(0, 0)], [(0, 0)]] 0 [fun (_nm : Unit) => fun σm => Hp S0 σ0 σm [Ch.ro 0 (Sl alist_0 list_0 clist_0) list_0, Ch.ro 0 (Sl alow_1 low_1 clow_1) low_1, Ch.ro 0 (Sl ahigh_2 high_2 chigh_2) high_2, Ch.own n0 n0 (Sl a23 s21.1 c24) s21.1] ∧ Md (cov []) σ29 σm] [fun (_nm : Unit) => (B s28.1), fun (_nm : Unit) => (B s28.1), fun (_nm : Unit) => undef, fun (_nm : Unit) => undef, fun (_nm : Unit) => undef, fun (_nm : Unit) => undef, fun (_nm : Unit) => undef, fun (_nm : Unit) => undef, fun (_nm : Unit) => undef, fun (_nm : Unit) => undef, fun (_nm : Unit) => undef, fun (_nm : Unit) => undef, fun (_nm : Unit) => undef, fun (_nm : Unit) => undef, fun (_nm : Unit) => undef, fun (_nm : Unit) => undef, fun (_nm : Unit) => undef, fun (_nm : Unit) => undef] () (by kernel_rfl) (by kernel_rfl) ?_ ?_ ?_
                    · intro σm m0
                      exact ⟨H.grow (m0.mono fun _ h => h.elim), m0⟩
                    · refine all_cons (obs_v rfl (by
                          intro k; intro _nm ρ σm hJ hoff hdep
                          have e9 : look 65 ρ 9 = (B s28.1) := look_off (hoff 9 rfl) rfl
                          exact dp_v (v := (B s28.1)) (wanted_none _ rfl _) (rv_move e9) rfl hJ)) ?_
                      refine all_cons (obs_v rfl (by
                          intro k; intro _nm ρ σm hJ hoff hdep
                          have e35 : look 65 ρ 35 = (B s28.1) := hdep 0 rfl rfl 35 rfl
                          exact dp_v (v := (B s28.1)) (wanted_none _ rfl _) (rv_move e35) rfl hJ)) ?_
                      refine all_cons (obs_v rfl (by
                          intro k; intro _nm ρ σm hJ hoff hdep
                          have e36 : look 65 ρ 36 = (B s28.1) := hdep 1 rfl rfl 36 rfl
                          exact dp_skip (wanted_no rfl (yv_of rfl (e36.trans (congrArg B hb32)))) rfl hJ)) ?_
                      refine all_cons (obs_v rfl (by
                          intro k; intro _nm ρ σm hJ hoff hdep
                          have e36 : look 65 ρ 36 = (B s28.1) := hdep 1 rfl rfl 36 rfl
                          exact dp_skip (wanted_no rfl (yv_of rfl (e36.trans (congrArg B hb32)))) rfl hJ)) ?_
                      refine all_cons (obs_v rfl (by
                          intro k; intro _nm ρ σm hJ hoff hdep
                          have e36 : look 65 ρ 36 = (B s28.1) := hdep 1 rfl rfl 36 rfl
                          exact dp_skip (wanted_no rfl (yv_of rfl (e36.trans (congrArg B hb32)))) rfl hJ)) ?_
                      refine all_cons (obs_v rfl (by
                          intro k; intro _nm ρ σm hJ hoff hdep
                          have e36 : look 65 ρ 36 = (B s28.1) := hdep 1 rfl rfl 36 rfl
                          exact dp_skip (wanted_no rfl (yv_of rfl (e36.trans (congrArg B hb32)))) rfl hJ)) ?_
                      refine all_cons (obs_v rfl (by
                          intro k; intro _nm ρ σm hJ hoff hdep
                          have e36 : look 65 ρ 36 = (B s28.1) := hdep 1 rfl rfl 36 rfl
                          exact dp_skip (wanted_no rfl (yv_of rfl (e36.trans (congrArg B hb32)))) rfl hJ)) ?_
                      refine all_cons (obs_v rfl (by
                          intro k; intro _nm ρ σm hJ hoff hdep
                          have e36 : look 65 ρ 36 = (B s28.1) := hdep 1 rfl rfl 36 rfl
                          exact dp_skip (wanted_no rfl (yv_of rfl (e36.trans (congrArg B hb32)))) rfl hJ)) ?_
                      refine all_cons (obs_v rfl (by
                          intro k; intro _nm ρ σm hJ hoff hdep
                          have e36 : look 65 ρ 36 = (B s28.1) := hdep 1 rfl rfl 36 rfl
                          exact dp_skip (wanted_no rfl (yv_of rfl (e36.trans (congrArg B hb32)))) rfl hJ)) ?_
                      refine all_cons (obs_v rfl (by
                          intro k; intro _nm ρ σm hJ hoff hdep
                          have e36 : look 65 ρ 36 = (B s28.1) := hdep 1 rfl rfl 36 rfl
                          exact dp_skip (wanted_no rfl (yv_of rfl (e36.trans (congrArg B hb32)))) rfl hJ)) ?_
                      refine all_cons (obs_v rfl (by
                          intro k; intro _nm ρ σm hJ hoff hdep
                          have e36 : look 65 ρ 36 = (B s28.1) := hdep 1 rfl rfl 36 rfl
                          exact dp_skip (wanted_no rfl (yv_of rfl (e36.trans (congrArg B hb32)))) rfl hJ)) ?_
                      refine all_cons (obs_v rfl (by
                          intro k; intro _nm ρ σm hJ hoff hdep
                          have e36 : look 65 ρ 36 = (B s28.1) := hdep 1 rfl rfl 36 rfl
                          exact dp_skip (wanted_no rfl (yv_of rfl (e36.trans (congrArg B hb32)))) rfl hJ)) ?_
                      refine all_cons (obs_v rfl (by
                          intro k; intro _nm ρ σm hJ hoff hdep
                          have e36 : look 65 ρ 36 = (B s28.1) := hdep 1 rfl rfl 36 rfl
                          exact dp_skip (wanted_no rfl (yv_of rfl (e36.trans (congrArg B hb32)))) rfl hJ)) ?_
                      refine all_cons (obs_v rfl (by
                          intro k; intro _nm ρ σm hJ hoff hdep
                          have e36 : look 65 ρ 36 = (B s28.1) := hdep 1 rfl rfl 36 rfl
                          exact dp_skip (wanted_no rfl (yv_of rfl (e36.trans (congrArg B hb32)))) rfl hJ)) ?_
                      refine all_cons (obs_v rfl (by
                          intro k; intro _nm ρ σm hJ hoff hdep
                          have e36 : look 65 ρ 36 = (B s28.1) := hdep 1 rfl rfl 36 rfl
                          exact dp_skip (wanted_no rfl (yv_of rfl (e36.trans (congrArg B hb32)))) rfl hJ)) ?_
                      refine all_cons (obs_v rfl (by
                          intro k; intro _nm ρ σm hJ hoff hdep
                          have e36 : look 65 ρ 36 = (B s28.1) := hdep 1 rfl rfl 36 rfl
                          exact dp_skip (wanted_no rfl (yv_of rfl (e36.trans (congrArg B hb32)))) rfl hJ)) ?_
                      refine all_cons (obs_v rfl (by
                          intro k; intro _nm ρ σm hJ hoff hdep
                          have e36 : look 65 ρ 36 = (B s28.1) := hdep 1 rfl rfl 36 rfl
                          exact dp_skip (wanted_no rfl (yv_of rfl (e36.trans (congrArg B hb32)))) rfl hJ)) ?_
                      refine all_cons (obs_v rfl (by
                          intro k; intro _nm ρ σm hJ hoff hdep
                          have e36 : look 65 ρ 36 = (B s28.1) := hdep 1 rfl rfl 36 rfl
                          exact dp_skip (wanted_no rfl (yv_of rfl (e36.trans (congrArg B hb32)))) rfl hJ)) ?_
                      exact all_nil
                    · intro _nm ρ σ66 hJ hoff hrel
                      have e0 : look 65 ρ 0 = (Sl alist_0 list_0 clist_0) := look_off (hoff 0 rfl) rfl
                      have e1 : look 65 ρ 1 = (Sl alow_1 low_1 clow_1) := look_off (hoff 1 rfl) rfl
                      have e2 : look 65 ρ 2 = (Sl ahigh_2 high_2 chigh_2) := look_off (hoff 2 rfl) rfl
                      have e7 : look 65 ρ 7 = (Sl a23 s21.1 c24) := look_off (hoff 7 rfl) rfl
                      have e8 : look 65 ρ 8 = (I s21.2) := look_off (hoff 8 rfl) rfl
                      have e10 : look 65 ρ 10 = (I s28.2) := look_off (hoff 10 rfl) rfl
                      have e36 : look 65 ρ 36 = (B s28.1) := hrel 1 rfl 36 rfl
                      have e44 : look 65 ρ 44 = undef := hrel 9 rfl 44 rfl
                      have e48 : look 65 ρ 48 = undef := hrel 13 rfl 48 rfl
                      have e52 : look 65 ρ 52 = undef := hrel 17 rfl 52 rfl
                      obtain ⟨H, -⟩ := (show Hp S0 σ0 σ66 [Ch.ro 0 (Sl alist_0 list_0 clist_0) list_0, Ch.ro 0 (Sl alow_1 low_1 clow_1) low_1, Ch.ro 0 (Sl ahigh_2 high_2 chigh_2) high_2, Ch.own n0 n0 (Sl a23 s21.1 c24) s21.1] ∧ Md (cov []) σ29 σ66 from hJ)
                      clear hJ Hs
                      rw [fr_lookL (L := [(0, (Sl alist_0 list_0 clist_0)), (1, (Sl alow_1 low_1 clow_1)), (2, (Sl ahigh_2 high_2 chigh_2)), (7, (Sl a23 s21.1 c24)), (8, (I s21.2)), (10, (I s28.2)), (36, (B s28.1)), (44, undef), (48, undef), (52, undef)]) ⟨e0, e1, e2, e7, e8, e10, e36, e44, e48, e52, trivial⟩]
                      clear hoff hrel e0 e1 e2 e7 e8 e10 e36 e44 e48 e52
                      refine st_skip (congrArg some hb32) ?_
                      refine st (v := (B false)) (rv_pick_f (congrArg B hb32) rfl) ?_
                      refine st (v := (B false)) (rv_assign rfl) ?_
                      refine w_end ?_
                      obtain rfl := Option.some.inj h
                      exact ⟨rfl, _, σ66, fr_join ⟨rfl, rfl, rfl, rfl, rfl, rfl, rfl, trivial⟩, rfl, H.sel' [0, 1, 2, 3] rfl rfl⟩
                · clear hj
                  have h := h'
                  clear h' H
                  rintro e a w ⟨rfl, ρ, σ67, rfl, rfl, H⟩
                  refine q_blk ?_
                  refine q_then ?_
                  refine rg ?_
                  refine st (v := (I s28.2)) (rv_move rfl) ?_
                  refine st (v := (I (w64 (s28.2 + 1)))) (rv_add (a := s28.2) (b := 1) rfl rfl) ?_
                  refine st (v := (I (w64 (s28.2 + 1)))) (rv_assign rfl) ?_
                  refine w_end ?_
                  refine q_then ?_
                  obtain rfl := Option.some.inj h
                  exact ⟨_, rfl, _, σ67, fr_join ⟨rfl, rfl, rfl, rfl, rfl, rfl, rfl, trivial⟩, rfl, H.sel' [0, 1, 2, 3] rfl rfl⟩
              · replace h := bif_f hb30 h
                refine c_exit ?_
                refine q_then_x ?_
                refine q_then_x ?_
                refine q_blk_hit ?_
                obtain rfl := Option.some.inj h
                obtain rfl := hres _ rfl
                exact ⟨rfl, _, σ29, fr_join ⟨rfl, rfl, rfl, rfl, rfl, rfl, trivial⟩, rfl, H.sel' [0, 1, 2, 3] rfl rfl⟩
            · clear hj
              have h := h'
              clear h' H
              rintro e a w ⟨rfl, ρ, σ68, rfl, rfl, H⟩
              refine q_then ?_
              refine c_seq ?_
              refine rg ?_
              refine st (v := (B o27)) (rv_move rfl) ?_
              refine w_end ?_
              refine q_then ?_
              refine cd_cond o27 rfl (fun hb69 => ?_) (fun hb69 => ?_)
              · replace h := bif_t hb69 h
                refine rg ?_
                refine st (v := (Sl a23 s21.1 c24)) (rv_move rfl) ?_
                refine st (v := (Sl alist_0 list_0 clist_0)) (rv_move rfl) ?_
                refine st (v := (I s21.2)) (rv_move rfl) ?_
                obtain ⟨x70, hx71, h'⟩ := bind_some h
                clear h
                have h := h'; clear h'
                obtain ⟨b73, o74, hi72, -⟩ := (H.ro 0 rfl).ix hx71
                refine st (v := (pt b73 o74)) (rv_ix Try.underlying23 ti38 rfl rfl hi72) ?_
                refine st (v := (pt b73 (o74 + 0))) (rv_fieldAddr (off := 0) (ft := 3) Try.underlying38 rfl ti3 rfl rfl) ?_
                have hc75 := ((H.ro 0 rfl).at hx71 hi72).fst.int
                refine st (v := (I x70.1)) (rv_load1 Try.underlying3 rfl rfl hc75) ?_
                refine st_ex (ex_buildSlice (el := n0) (xs := ([x70.1] : List Int)) (ps := [(0, (I x70.1))]) (cs := [(I x70.1)]) H hn0 Try.underlying25 ti3 rfl rfl (by kernel_rfl) (.cons (c := [(I x70.1)]) rfl (.nil)) rfl) (wanted_none _ rfl _) ?_
                rintro _ σ77 ⟨b76, rfl, H, -⟩
                obtain ⟨xs78, hx79, h'⟩ := bind_some h
                clear h
                have h := h'; clear h'
                refine st_ex (ex_append H (i := 4) rfl Try.underlying25 Try.underlying25 ti3 rfl rfl (by decide) (H.own 0 rfl).rd hx79 hn0 rfl rfl) (wanted_none _ rfl _) ?_
                rintro _ σ82 ⟨a80, c81, rfl, H, -⟩
                refine st (v := (Sl a80 xs78 c81)) (rv_assign rfl) ?_
                refine w_end ?_
                refine q_blk ?_
                obtain rfl := Option.some.inj h
                exact ⟨rfl, _, σ82, a80, c81, fr_join ⟨rfl, rfl, rfl, rfl, rfl, trivial⟩, rfl, H.sel' [2, 3, 4, 0] rfl rfl⟩
              · replace h := bif_f hb69 h
                refine c_skip ?_
                refine q_blk ?_
                obtain rfl := Option.some.inj h
                exact ⟨rfl, _, σ68, a23, c24, fr_join ⟨rfl, rfl, rfl, rfl, rfl, trivial⟩, rfl, H.sel' [0, 1, 2, 3] rfl rfl⟩
          · clear hj
            have h := h'
            clear h' H
            rintro e a w ⟨rfl, ρ, σ83, a84, c85, rfl, rfl, H⟩
            refine q_then ?_
            refine rg ?_
            refine st (v := (I s21.2)) (rv_move rfl) ?_
            refine st (v := (I (w64 (s21.2 + 1)))) (rv_add (a := s21.2) (b := 1) rfl rfl) ?_
            refine st (v := (I (w64 (s21.2 + 1)))) (rv_assign rfl) ?_
            refine w_end ?_
            refine q_then ?_
            obtain rfl := Option.some.inj h
            exact ⟨_, rfl, _, σ83, a84, c85, fr_join ⟨rfl, rfl, rfl, rfl, rfl, trivial⟩, rfl, H.sel' [0, 1, 2, 3] rfl rfl⟩
        · replace h := bif_f hb25 h
          refine c_exit ?_
          refine q_then_x ?_
          refine q_then_x ?_
          refine q_blk_hit ?_
          obtain rfl := Option.some.inj h
          obtain rfl := hres _ rfl
          exact ⟨rfl, _, σ22, a23, c24, fr_join ⟨rfl, trivial⟩, rfl, H.sel' [3] rfl rfl⟩
      · clear hj
        have h := h'
        clear h' H
        rintro e a w ⟨rfl, ρ, σ86, a87, c88, rfl, rfl, H⟩
        refine q_then ?_
        refine c_seq ?_
        refine rg ?_
        refine st (v := (Sl a87 o20 c88)) (rv_move rfl) ?_
        refine st (v := (Sl a87 o20 c88)) (rv_assign rfl) ?_
        refine w_end ?_
        refine q_then ?_
        refine c_ret ?_
        obtain rfl := Option.some.inj h
        exact fin_ret (v := (Sl a87 o20 c88)) (results_ok Try.results31 (res_tmp (v := (Sl a87 o20 c88)) rfl res_nil) rfl) ⟨a87, c88, rfl, rfl⟩ (H.sel' [0] rfl rfl)

theorem c_laws_isIn {list_0 : List Int} {n_1 : Int} {alist_0 : Option Addr} {clist_0 : Nat} {r : Bool} (h : M.laws_isIn list_0 n_1 = some r) :
    Cal2 Try.prog 32 [(Sl alist_0 list_0 clist_0), (I n_1)] [Ch.ro 0 (Sl alist_0 list_0 clist_0) list_0] (fun n0 v L => v = (B r) ∧ L = []) := by
  refine cal2 (n := 18) Try.func32 rfl rfl rfl rfl ?_
  intro S0 σ0 n0 hn0 H
  unfold M.laws_isIn at h
  refine c_seq ?_
  refine rg ?_
  refine st (v := (B false)) (rv_assign rfl) ?_
  refine w_end ?_
  refine q_then ?_
  refine c_seq ?_
  refine c_seq ?_
  refine rg ?_
  refine st (v := (I 0)) (rv_assign rfl) ?_
  refine w_end ?_
  refine q_then ?_
  obtain ⟨o1, hj, h'⟩ := bind_some h
  clear h
  refine c_cut (fun e a w => (∃ t, o1 = (.inl t) ∧ e = .normal ∧ ∃ (ρ : Nat → Value) (σ : St), a = fr 18 (updL ρ []) ∧ w = σ.w ∧ Hp S0 σ0 σ []) ∨ (∃ t, o1 = (.inr t) ∧ e = .ret ∧ ∃ (ρ : Nat → Value) (σ : St), a = fr 18 (updL ρ [(4, (B t))]) ∧ w = σ.w ∧ Hp S0 σ0 σ [])) ?_ ?_
  · clear h'
    rename _ = some o1 => h
    refine c_blk ?_
    refine wp_loopM _ h (fun s2 a w => ∃ (ρ : Nat → Value) (σ : St), a = fr 18 (updL ρ [(0, (Sl alist_0 list_0 clist_0)), (1, (I n_1)), (5, (I s2))]) ∧ w = σ.w ∧ Hp S0 σ0 σ [Ch.ro 0 (Sl alist_0 list_0 clist_0) list_0]) ⟨_, σ0, fr_join ⟨rfl, rfl, rfl, trivial⟩, rfl, H.sel' [0] rfl rfl⟩ ?_
    clear h H
    rintro s2 a w o ⟨ρ, σ3, rfl, rfl, H⟩ h hres
    refine c_seq ?_
    refine c_seq ?_
    refine rg ?_
    refine st (v := (I s2)) (rv_move rfl) ?_
    refine st (v := (Sl alist_0 list_0 clist_0)) (rv_move rfl) ?_
    refine st (v := (I (list_0.length : Int))) (rv_len Try.underlying25 rfl) ?_
    refine st (v := (B (decide (s2 < (list_0.length : Int))))) (rv_lss (a := s2) (b := (list_0.length : Int)) rfl rfl) ?_
    refine w_end ?_
    refine q_then ?_
    refine cd_cond (decide (s2 < (list_0.length : Int))) rfl (fun hb4 => ?_) (fun hb4 => ?_)
    · replace h := bif_t hb4 h
      refine c_skip ?_
      refine q_then ?_
      refine c_seq ?_
      refine c_blk ?_
      refine c_seq ?_
      refine rg ?_
      refine st (v := (Sl alist_0 list_0 clist_0)) (rv_move rfl) ?_
      refine st (v := (I s2)) (rv_move rfl) ?_
      obtain ⟨x5, hx6, h'⟩ := bind_some h
      clear h
      have h := h'; clear h'
      obtain ⟨b8, o9, hi7, -⟩ := (H.ro 0 rfl).ix hx6
      refine st (v := (pt b8 o9)) (rv_ix Try.underlying25 ti3 rfl rfl hi7) ?_
      have hc10 := ((H.ro 0 rfl).at hx6 hi7).int
      refine st (v := (I x5)) (rv_load1 Try.underlying3 rfl rfl hc10) ?_
      refine st (v := (I n_1)) (rv_move rfl) ?_
      refine st (v := (B (x5 == n_1))) (rv_eql (a := x5) (b := n_1) rfl rfl) ?_
      refine w_end ?_
      refine q_then ?_
      refine cd_cond (x5 == n_1) rfl (fun hb11 => ?_) (fun hb11 => ?_)
      · replace h := bif_t hb11 h
        refine c_seq ?_
        refine rg ?_
        refine st (v := (B true)) (rv_assign rfl) ?_
        refine w_end ?_
        refine q_then ?_
        refine c_ret ?_
        refine q_blk_r ?_
        refine q_then_r ?_
        refine q_then_r ?_
        refine q_blk_r ?_
        obtain rfl := Option.some.inj h
        obtain rfl := hres _ rfl
        exact .inr (⟨_, rfl, rfl, _, σ3, fr_join ⟨rfl, trivial⟩, rfl, H.sel' [] rfl rfl⟩)
      · replace h := bif_f hb11 h
        refine c_skip ?_
        refine q_blk ?_
        refine q_then ?_
        refine rg ?_
        refine st (v := (I s2)) (rv_move rfl) ?_
        refine st (v := (I (w64 (s2 + 1)))) (rv_add (a := s2) (b := 1) rfl rfl) ?_
        refine st (v := (I (w64 (s2 + 1)))) (rv_assign rfl) ?_
        refine w_end ?_
        refine q_then ?_
        obtain rfl := Option.some.inj h
        exact ⟨_, rfl, _, σ3, fr_join ⟨rfl, rfl, rfl, trivial⟩, rfl, H.sel' [0] rfl rfl⟩
    · replace h := bif_f hb4 h
      refine c_exit ?_
      refine q_then_x ?_
      refine q_then_x ?_
      refine q_blk_hit ?_
      obtain rfl := Option.some.inj h
      obtain rfl := hres _ rfl
      exact .inl ⟨_, rfl, rfl, _, σ3, fr_join trivial, rfl, H.sel' [] rfl rfl⟩
  · clear hj
    have h := h'
    clear h' H
    rintro e a w (⟨t12, rfl, rfl, ρ, σ13, rfl, rfl, H⟩ | ⟨t14, rfl, rfl, ρ, σ15, rfl, rfl, H⟩)
    · replace h := selim_l h
      refine q_then ?_
      refine c_seq ?_
      refine rg ?_
      refine st (v := (B false)) (rv_assign rfl) ?_
      refine w_end ?_
      refine q_then ?_
      refine c_ret ?_
      obtain rfl := Option.some.inj h
      exact fin_ret (v := (B false)) (results_ok Try.results32 (res_tmp (v := (B false)) rfl res_nil) rfl) ⟨rfl, rfl⟩ (H.sel' [] rfl rfl)
    · replace h := selim_r h
      refine q_then_r ?_
      obtain rfl := Option.some.inj h
      exact fin_ret (v := (B t14)) (results_ok Try.results32 (res_tmp (v := (B t14)) rfl res_nil) rfl) ⟨rfl, rfl⟩ (H.sel' [] rfl rfl)

theorem c_laws_FnInBox {code_0 : List UInt8} {acode_0 : Option Addr} {ccode_0 : Nat} {r : Bool} (h : M.laws_FnInBox code_0 = some r) :
    Cal2 Try.prog 8 [(Sl acode_0 code_0 ccode_0)] [Ch.ro 0 (Sl acode_0 code_0 ccode_0) code_0] (fun n0 v L => v = (B r) ∧ L = []) := by
  refine cal2 (n := 96) Try.func8 rfl rfl rfl rfl ?_
  intro S0 σ0 n0 hn0 H
  unfold M.laws_FnInBox at h
  refine c_seq ?_
  refine rg ?_
  refine st (v := (B false)) (rv_assign rfl) ?_
  refine w_end ?_
  refine q_then ?_
  refine c_seq ?_
  refine c_seq ?_
  refine rg ?_
  refine st (v := (Sl acode_0 code_0 ccode_0)) (rv_move rfl) ?_
  refine st (v := (I (code_0.length : Int))) (rv_len Try.underlying22 rfl) ?_
  refine st (v := (B (decide (1048576 < (code_0.length : Int))))) (rv_gtr (a := (code_0.length : Int)) (b := 1048576) rfl rfl) ?_
  refine w_end ?_
  refine q_then ?_
  refine cd_cond (decide (1048576 < (code_0.length : Int))) rfl (fun hb1 => ?_) (fun hb1 => ?_)
  · replace h := bif_t hb1 h
    refine c_seq ?_
    refine rg ?_
    refine st (v := (B true)) (rv_assign rfl) ?_
    refine w_end ?_
    refine q_then ?_
    refine c_ret ?_
    refine q_then_r ?_
    obtain rfl := Option.some.inj h
    exact fin_ret (v := (B true)) (results_ok Try.results8 (res_tmp (v := (B true)) rfl res_nil) rfl) ⟨rfl, rfl⟩ (H.sel' [] rfl rfl)
  · replace h := bif_f hb1 h
    refine c_skip ?_
    refine q_then ?_
    refine c_seq ?_
    refine rg ?_
    refine st (v := (Sl acode_0 code_0 ccode_0)) (rv_move rfl) ?_
    obtain ⟨r2, hx3, h'⟩ := bind_some h
    clear h
    have h := h'; clear h'
    have hc4 := c_spec_DrawInBox (acode_0 := acode_0) (ccode_0 := ccode_0) hx3
    refine st_call (cx_call hc4 (ent_f hc4.fn rfl) hn0 (show Hp S0 σ0 _ ([Ch.ro 0 (Sl acode_0 code_0 ccode_0) code_0] ++ [Ch.ro 0 (Sl acode_0 code_0 ccode_0) code_0]) from (H.sel' [0, 0] rfl rfl))) (wanted_none _ rfl _) ?_
    rintro _ σ11 ⟨_, ⟨a5, c6, a7, c8, a9, c10, rfl, rfl⟩, H, -⟩
    replace H : Hp S0 σ0 σ11 [Ch.own n0 n0 (Sl a5 r2.1 c6) r2.1, Ch.own n0 n0 (Sl a7 r2.2.1 c8) r2.2.1, Ch.own n0 n0 (Sl a9 r2.2.2 c10) r2.2.2, Ch.ro 0 (Sl acode_0 code_0 ccode_0) code_0] := H
    refine st (v := (.tuple #[(Sl a5 r2.1 c6), (Sl a7 r2.2.1 c8), (Sl a9 r2.2.2 c10)])) (rv_move rfl) ?_
    refine st (v := (Sl a5 r2.1 c6)) (rv_extract rfl rfl) ?_
    refine st (v := (Sl a7 r2.2.1 c8)) (rv_extract rfl rfl) ?_
    refine st (v := (Sl a9 r2.2.2 c10)) (rv_extract rfl rfl) ?_
    refine st (v := (Sl a5 r2.1 c6)) (rv_assign rfl) ?_
    refine st (v := (Sl a7 r2.2.1 c8)) (rv_assign rfl) ?_
    refine st (v := (Sl a9 r2.2.2 c10)) (rv_assign rfl) ?_
    refine w_end ?_
    refine q_then ?_
    refine c_seq ?_
    refine rg ?_
    refine st (v := (Sl a5 r2.1 c6)) (rv_move rfl) ?_
    refine st (v := (Sl a7 r2.2.1 c8)) (rv_move rfl) ?_
    refine st (v := (Sl a9 r2.2.2 c10)) (rv_move rfl) ?_
    obtain ⟨r12, hx13, h'⟩ := bind_some h
    clear h
    have h := h'; clear h'
    have hc14 := c_impl_InBox (alist_0 := a5) (clist_0 := c6) (alow_1 := a7) (clow_1 := c8) (ahigh_2 := a9) (chigh_2 := c10) hx13
    have hle := Nat.le_trans hn0 H.size
    refine st_call (cx_lend (Loan.lend (Loan.lend (Loan.lend Loan.nil))) hc14 (ent_f hc14.fn rfl) (show Hp S0 σ0 _ ([Ch.own n0 n0 (Sl a5 r2.1 c6) r2.1, Ch.own n0 n0 (Sl a7 r2.2.1 c8) r2.2.1, Ch.own n0 n0 (Sl a9 r2.2.2 c10) r2.2.2] ++ ([] ++ [Ch.ro 0 (Sl acode_0 code_0 ccode_0) code_0])) from (H.sel' [0, 1, 2, 3] rfl rfl)) (by rintro _ _ _ ⟨_, _, rfl, rfl⟩; exact ⟨Ab.ownSc, trivial⟩)) (wanted_none _ rfl _) ?_
    rintro _ σ17 ⟨_, ⟨a15, c16, rfl, rfl⟩, H, -, -⟩
    replace H : Hp S0 σ0 σ17 [Ch.own σ11.size σ11.size (Sl a15 r12 c16) r12, Ch.own n0 n0 (Sl a5 r2.1 c6) r2.1, Ch.own n0 n0 (Sl a7 r2.2.1 c8) r2.2.1, Ch.own n0 n0 (Sl a9 r2.2.2 c10) r2.2.2, Ch.ro 0 (Sl acode_0 code_0 ccode_0) code_0] := H
    replace H := H.ownLow 0 n0 n0 rfl hle hle
    clear hle
    replace H : Hp S0 σ0 σ17 [Ch.own n0 n0 (Sl a15 r12 c16) r12, Ch.own n0 n0 (Sl a5 r2.1 c6) r2.1, Ch.own n0 n0 (Sl a7 r2.2.1 c8) r2.2.1, Ch.own n0 n0 (Sl a9 r2.2.2 c10) r2.2.2, Ch.ro 0 (Sl acode_0 code_0 ccode_0) code_0] := H
    refine st (v := (Sl a15 r12 c16)) (rv_assign rfl) ?_
    refine w_end ?_
    refine q_then ?_
    refine c_seq ?_
    refine c_seq ?_
    obtain ⟨o18, hj, h'⟩ := bind_some h
    clear h
    refine c_cut (fun e a w => e = .normal ∧ ∃ (ρ : Nat → Value) (σ : St), a = fr 96 (updL ρ [(3, (Sl a5 r2.1 c6)), (4, (Sl a7 r2.2.1 c8)), (5, (Sl a9 r2.2.2 c10)), (6, (Sl a15 r12 c16)), (34, (B o18))]) ∧ w = σ.w ∧ Hp S0 σ0 σ [Ch.own n0 n0 (Sl a5 r2.1 c6) r2.1, Ch.own n0 n0 (Sl a7 r2.2.1 c8) r2.2.1, Ch.own n0 n0 (Sl a9 r2.2.2 c10) r2.2.2, Ch.own n0 n0 (Sl a15 r12 c16) r12]) ?_ ?_
    · clear h'
      rename _ = some o18 => h
      refine rg ?_
      refine st (v := (Sl a15 r12 c16)) (rv_move rfl) ?_
      refine st (v := (Sl a5 r2.1 c6)) (rv_move rfl) ?_
      refine st (v := (Sl a7 r2.2.1 c8)) (rv_move rfl) ?_
      refine st (v := (Sl a9 r2.2.2 c10)) (rv_move rfl) ?_
      obtain ⟨r19, hx20, h'⟩ := bind_some h
      clear h
      have h := h'; clear h'
      have hc21 := c_spec_InBox (alist_0 := a5) (clist_0 := c6) (alow_1 := a7) (clow_1 := c8) (ahigh_2 := a9) (chigh_2 := c10) hx20
      have hle := Nat.le_trans hn0 H.size
      refine st_call (cx_lend (Loan.lend (Loan.lend (Loan.lend Loan.nil))) hc21 (ent_f hc21.fn rfl) (show Hp S0 σ0 _ ([Ch.own n0 n0 (Sl a5 r2.1 c6) r2.1, Ch.own n0 n0 (Sl a7 r2.2.1 c8) r2.2.1, Ch.own n0 n0 (Sl a9 r2.2.2 c10) r2.2.2] ++ ([] ++ [Ch.own n0 n0 (Sl a15 r12 c16) r12, Ch.ro 0 (Sl acode_0 code_0 ccode_0) code_0])) from (H.sel' [1, 2, 3, 0, 4] rfl rfl)) (by rintro _ _ _ ⟨_, _, rfl, rfl⟩; exact ⟨Ab.ownSc, trivial⟩)) (wanted_none _ rfl _) ?_
      rintro _ σ24 ⟨_, ⟨a22, c23, rfl, rfl⟩, H, -, -⟩
      replace H : Hp S0 σ0 σ24 [Ch.own σ17.size σ17.size (Sl a22 r19 c23) r19, Ch.own n0 n0 (Sl a5 r2.1 c6) r2.1, Ch.own n0 n0 (Sl a7 r2.2.1 c8) r2.2.1, Ch.own n0 n0 (Sl a9 r2.2.2 c10) r2.2.2, Ch.own n0 n0 (Sl a15 r12 c16) r12, Ch.ro 0 (Sl acode_0 code_0 ccode_0) code_0] := H
      replace H := H.ownLow 0 n0 n0 rfl hle hle
      clear hle
      replace H : Hp S0 σ0 σ24 [Ch.own n0 n0 (Sl a22 r19 c23) r19, Ch.own n0 n0 (Sl a5 r2.1 c6) r2.1, Ch.own n0 n0 (Sl a7 r2.2.1 c8) r2.2.1, Ch.own n0 n0 (Sl a9 r2.2.2 c10) r2.2.2, Ch.own n0 n0 (Sl a15 r12 c16) r12, Ch.ro 0 (Sl acode_0 code_0 ccode_0) code_0] := H
      obtain ⟨σ25, hw26, H, -⟩ := H.pub 0 rfl (Nat.le_refl _)
      rw [← hw26]; clear hw26
      replace H := H.roLow 0 0 rfl (Nat.zero_le _)
      obtain ⟨r27, hx28, h'⟩ := bind_some h
      clear h
      have h := h'; clear h'
      have hc29 := c_laws_equalInts (aa_0 := a15) (ca_0 := c16) (ab_1 := a22) (cb_1 := c23) hx28
      have hle := Nat.le_trans hn0 H.size
      refine st_call (cx_lend (Loan.lend (Loan.same Loan.nil)) hc29 (ent_f hc29.fn rfl) (show Hp S0 σ0 _ ([Ch.own n0 n0 (Sl a15 r12 c16) r12] ++ ([Ch.ro 0 (Sl a22 r19 c23) r19] ++ [Ch.ro 0 (Sl a22 r19 c23) r19, Ch.ro n0 (Sl a22 r19 c23) r19, Ch.own n0 n0 (Sl a5 r2.1 c6) r2.1, Ch.own n0 n0 (Sl a7 r2.2.1 c8) r2.2.1, Ch.own n0 n0 (Sl a9 r2.2.2 c10) r2.2.2, Ch.ro 0 (Sl acode_0 code_0 ccode_0) code_0])) from (H.sel' [5, 0, 0, 1, 2, 3, 4, 6] rfl rfl)) (by rintro _ _ _ ⟨rfl, rfl⟩; exact trivial)) (wanted_none _ rfl _) ?_
      rintro _ σ30 ⟨_, ⟨rfl, rfl⟩, H, -, -⟩
      replace H : Hp S0 σ0 σ30 [Ch.own n0 n0 (Sl a15 r12 c16) r12, Ch.ro 0 (Sl a22 r19 c23) r19, Ch.ro n0 (Sl a22 r19 c23) r19, Ch.own n0 n0 (Sl a5 r2.1 c6) r2.1, Ch.own n0 n0 (Sl a7 r2.2.1 c8) r2.2.1, Ch.own n0 n0 (Sl a9 r2.2.2 c10) r2.2.2, Ch.ro 0 (Sl acode_0 code_0 ccode_0) code_0] := H
      clear hle
      replace H : Hp S0 σ0 σ30 [Ch.own n0 n0 (Sl a15 r12 c16) r12, Ch.ro 0 (Sl a22 r19 c23) r19, Ch.ro n0 (Sl a22 r19 c23) r19, Ch.own n0 n0 (Sl a5 r2.1 c6) r2.1, Ch.own n0 n0 (Sl a7 r2.2.1 c8) r2.2.1, Ch.own n0 n0 (Sl a9 r2.2.2 c10) r2.2.2, Ch.ro 0 (Sl acode_0 code_0 ccode_0) code_0] := H
      refine st (v := (B (!r27))) (rv_not rfl) ?_
      refine st (v := (B (!r27))) (rv_move rfl) ?_
      rcases Bool.eq_false_or_eq_true (!r27) with hb31 | hb31
      · replace h := bif_t hb31 h
        refine st_skip (congrArg some hb31) ?_
        refine st_skip (congrArg some hb31) ?_
        refine st_skip (congrArg some hb31) ?_
        refine st (v := (B true)) (rv_pick_t (congrArg B hb31) rfl) ?_
        refine w_end ?_
        obtain rfl := Option.some.inj h
        exact ⟨rfl, _, σ30, fr_join ⟨rfl, rfl, rfl, rfl, rfl, trivial⟩, rfl, H.sel' [3, 4, 5, 0] rfl rfl⟩
      · replace h := bif_f hb31 h
        refine st_g (v := (Sl a15 r12 c16)) (congrArg some hb31) (rv_move rfl) ?_
        refine st_g (v := (I (r12.length : Int))) (congrArg some hb31) (rv_len Try.underlying25 rfl) ?_
        refine st_g (v := (B ((r12.length : Int) == 0))) (congrArg some hb31) (rv_eql (a := (r12.length : Int)) (b := 0) rfl rfl) ?_
        refine st (v := (B ((r12.length : Int) == 0))) (rv_pick_f (congrArg B hb31) rfl) ?_
        refine w_end ?_
        obtain rfl := Option.some.inj h
        exact ⟨rfl, _, σ30, fr_join ⟨rfl, rfl, rfl, rfl, rfl, trivial⟩, rfl, H.sel' [3, 4, 5, 0] rfl rfl⟩
    · clear hj
      have h := h'
      clear h' H
      rintro e a w ⟨rfl, ρ, σ32, rfl, rfl, H⟩
      refine q_then ?_
      refine cd_cond o18 rfl (fun hb33 => ?_) (fun hb33 => ?_)
      · replace h := bif_t hb33 h
        refine c_seq ?_
        refine rg ?_
        refine st (v := (Sl a15 r12 c16)) (rv_move rfl) ?_
        refine st (v := (Sl a5 r2.1 c6)) (rv_move rfl) ?_
        refine st (v := (Sl a7 r2.2.1 c8)) (rv_move rfl) ?_
        refine st (v := (Sl a9 r2.2.2 c10)) (rv_move rfl) ?_
        obtain ⟨σ34, hw35, H, -⟩ := H.pub 0 rfl (Nat.le_refl _)
        rw [← hw35]; clear hw35
        obtain ⟨σ36, hw37, H, -⟩ := H.pub 1 rfl (Nat.le_refl _)
        rw [← hw37]; clear hw37
        obtain ⟨σ38, hw39, H, -⟩ := H.pub 2 rfl (Nat.le_refl _)
        rw [← hw39]; clear hw39
        replace H := H.roLow 2 0 rfl (Nat.zero_le _)
        replace H := H.roLow 2 0 rfl (Nat.zero_le _)
        replace H := H.roLow 2 0 rfl (Nat.zero_le _)
        obtain ⟨r40, hx41, h'⟩ := bind_some h
        clear h
        have h := h'; clear h'
        have hc42 := c_spec_InBox (alist_0 := a5) (clist_0 := c6) (alow_1 := a7) (clow_1 := c8) (ahigh_2 := a9) (chigh_2 := c10) hx41
        refine st_call (cx_call hc42 (ent_f hc42.fn rfl) hn0 (show Hp S0 σ0 _ ([Ch.ro 0 (Sl a5 r2.1 c6) r2.1, Ch.ro 0 (Sl a7 r2.2.1 c8) r2.2.1, Ch.ro 0 (Sl a9 r2.2.2 c10) r2.2.2] ++ [Ch.ro 0 (Sl a9 r2.2.2 c10) r2.2.2, Ch.ro 0 (Sl a7 r2.2.1 c8) r2.2.1, Ch.ro 0 (Sl a5 r2.1 c6) r2.1, Ch.ro n0 (Sl a9 r2.2.2 c10) r2.2.2, Ch.ro n0 (Sl a7 r2.2.1 c8) r2.2.1, Ch.ro n0 (Sl a5 r2.1 c6) r2.1, Ch.own n0 n0 (Sl a15 r12 c16) r12]) from (H.sel' [2, 1, 0, 0, 1, 2, 3, 4, 5, 6] rfl rfl))) (wanted_none _ rfl _) ?_
        rintro _ σ45 ⟨_, ⟨a43, c44, rfl, rfl⟩, H, -⟩
        replace H : Hp S0 σ0 σ45 [Ch.own n0 n0 (Sl a43 r40 c44) r40, Ch.ro 0 (Sl a9 r2.2.2 c10) r2.2.2, Ch.ro 0 (Sl a7 r2.2.1 c8) r2.2.1, Ch.ro 0 (Sl a5 r2.1 c6) r2.1, Ch.ro n0 (Sl a9 r2.2.2 c10) r2.2.2, Ch.ro n0 (Sl a7 r2.2.1 c8) r2.2.1, Ch.ro n0 (Sl a5 r2.1 c6) r2.1, Ch.own n0 n0 (Sl a15 r12 c16) r12] := H
        replace H : Hp S0 σ0 σ45 [Ch.own n0 n0 (Sl a43 r40 c44) r40, Ch.own n0 n0 (Sl a15 r12 c16) r12] := H.sel' [0, 7] rfl rfl
        obtain ⟨σ46, hw47, H, -⟩ := H.pub 1 rfl (Nat.le_refl _)
        rw [← hw47]; clear hw47
        obtain ⟨σ48, hw49, H, -⟩ := H.pub 1 rfl (Nat.le_refl _)
        rw [← hw49]; clear hw49
        replace H := H.roLow 1 0 rfl (Nat.zero_le _)
        replace H := H.roLow 1 0 rfl (Nat.zero_le _)
        obtain ⟨r50, hx51, h'⟩ := bind_some h
        clear h
        have h := h'; clear h'
        have hc52 := c_laws_equalInts (aa_0 := a15) (ca_0 := c16) (ab_1 := a43) (cb_1 := c44) hx51
        refine st_call (cx_call hc52 (ent_f hc52.fn rfl) hn0 (show Hp S0 σ0 _ ([Ch.ro 0 (Sl a15 r12 c16) r12, Ch.ro 0 (Sl a43 r40 c44) r40] ++ [Ch.ro 0 (Sl a43 r40 c44) r40, Ch.ro 0 (Sl a15 r12 c16) r12, Ch.ro n0 (Sl a43 r40 c44) r40, Ch.ro n0 (Sl a15 r12 c16) r12]) from (H.sel' [1, 0, 0, 1, 2, 3] rfl rfl))) (wanted_none _ rfl _) ?_
        rintro _ σ53 ⟨_, ⟨rfl, rfl⟩, H, -⟩
        replace H : Hp S0 σ0 σ53 [Ch.ro 0 (Sl a43 r40 c44) r40, Ch.ro 0 (Sl a15 r12 c16) r12, Ch.ro n0 (Sl a43 r40 c44) r40, Ch.ro n0 (Sl a15 r12 c16) r12] := H
        refine st (v := (B r50)) (rv_assign rfl) ?_
        refine w_end ?_
        refine q_then ?_
        refine c_ret ?_
        refine q_then_r ?_
        obtain rfl := Option.some.inj h
        exact fin_ret (v := (B r50)) (results_ok Try.results8 (res_tmp (v := (B r50)) rfl res_nil) rfl) ⟨rfl, rfl⟩ (H.sel' [] rfl rfl)
      · replace h := bif_f hb33 h
        refine c_skip ?_
        refine q_then ?_
        refine c_seq ?_
        refine c_seq ?_
        refine rg ?_
        refine st (v := (I 0)) (rv_assign rfl) ?_
        refine w_end ?_
        refine q_then ?_
        obtain ⟨o54, hj, h'⟩ := bind_some h
        clear h
        refine c_cut (fun e a w => (∃ t, o54 = (.inl t) ∧ e = .normal ∧ ∃ (ρ : Nat → Value) (σ : St), a = fr 96 (updL ρ [(3, (Sl a5 r2.1 c6)), (6, (Sl a15 r12 c16))]) ∧ w = σ.w ∧ Hp S0 σ0 σ [Ch.own n0 n0 (Sl a5 r2.1 c6) r2.1, Ch.own n0 n0 (Sl a15 r12 c16) r12]) ∨ (∃ t, o54 = (.inr t) ∧ e = .ret ∧ ∃ (ρ : Nat → Value) (σ : St), a = fr 96 (updL ρ [(2, (B t))]) ∧ w = σ.w ∧ Hp S0 σ0 σ [])) ?_ ?_
        · clear h'
          rename _ = some o54 => h
          refine c_blk ?_
          refine wp_loopM _ h (fun s55 a w => ∃ (ρ : Nat → Value) (σ : St), a = fr 96 (updL ρ [(3, (Sl a5 r2.1 c6)), (4, (Sl a7 r2.2.1 c8)), (5, (Sl a9 r2.2.2 c10)), (6, (Sl a15 r12 c16)), (7, (I s55))]) ∧ w = σ.w ∧ Hp S0 σ0 σ [Ch.own n0 n0 (Sl a5 r2.1 c6) r2.1, Ch.own n0 n0 (Sl a7 r2.2.1 c8) r2.2.1, Ch.own n0 n0 (Sl a9 r2.2.2 c10) r2.2.2, Ch.own n0 n0 (Sl a15 r12 c16) r12]) ⟨_, σ32, fr_join ⟨rfl, rfl, rfl, rfl, rfl, trivial⟩, rfl, H.sel' [0, 1, 2, 3] rfl rfl⟩ ?_
          clear h H
          rintro s55 a w o ⟨ρ, σ56, rfl, rfl, H⟩ h hres
          refine c_seq ?_
          refine c_seq ?_
          refine rg ?_
          refine st (v := (I s55)) (rv_move rfl) ?_
          refine st (v := (Sl a5 r2.1 c6)) (rv_move rfl) ?_
          refine st (v := (I (r2.1.length : Int))) (rv_len Try.underlying23 rfl) ?_
          refine st (v := (B (decide (s55 < (r2.1.length : Int))))) (rv_lss (a := s55) (b := (r2.1.length : Int)) rfl rfl) ?_
          refine w_end ?_
          refine q_then ?_
          refine cd_cond (decide (s55 < (r2.1.length : Int))) rfl (fun hb57 => ?_) (fun hb57 => ?_)
          · replace h := bif_t hb57 h
            refine c_skip ?_
            refine q_then ?_
            refine c_seq ?_
            refine c_blk ?_
            refine c_seq ?_
            refine rg ?_
            refine st (v := (B true)) (rv_assign rfl) ?_
            refine w_end ?_
            refine q_then ?_
            refine c_seq ?_
            refine c_seq ?_
            refine rg ?_
            refine st (v := (I 0)) (rv_assign rfl) ?_
            refine w_end ?_
            refine q_then ?_
            obtain ⟨o58, hj, h'⟩ := bind_some h
            clear h
            refine c_cut (fun e a w => e = .normal ∧ ∃ (ρ : Nat → Value) (σ : St), a = fr 96 (updL ρ [(3, (Sl a5 r2.1 c6)), (4, (Sl a7 r2.2.1 c8)), (5, (Sl a9 r2.2.2 c10)), (6, (Sl a15 r12 c16)), (7, (I s55)), (8, (B o58))]) ∧ w = σ.w ∧ Hp S0 σ0 σ [Ch.own n0 n0 (Sl a5 r2.1 c6) r2.1, Ch.own n0 n0 (Sl a7 r2.2.1 c8) r2.2.1, Ch.own n0 n0 (Sl a9 r2.2.2 c10) r2.2.2, Ch.own n0 n0 (Sl a15 r12 c16) r12]) ?_ ?_
            · clear h'
              rename _ = some o58 => h
              refine c_blk ?_
              refine wp_loopM _ h (fun s59 a w => ∃ (ρ : Nat → Value) (σ : St), a = fr 96 (updL ρ [(3, (Sl a5 r2.1 c6)), (4, (Sl a7 r2.2.1 c8)), (5, (Sl a9 r2.2.2 c10)), (6, (Sl a15 r12 c16)), (7, (I s55)), (8, (B s59.1)), (9, (I s59.2))]) ∧ w = σ.w ∧ Hp S0 σ0 σ [Ch.own n0 n0 (Sl a5 r2.1 c6) r2.1, Ch.own n0 n0 (Sl a7 r2.2.1 c8) r2.2.1, Ch.own n0 n0 (Sl a9 r2.2.2 c10) r2.2.2, Ch.own n0 n0 (Sl a15 r12 c16) r12]) ⟨_, σ56, fr_join ⟨rfl, rfl, rfl, rfl, rfl, rfl, rfl, trivial⟩, rfl, H.sel' [0, 1, 2, 3] rfl rfl⟩ ?_
              clear h H
              rintro s59 a w o ⟨ρ, σ60, rfl, rfl, H⟩ h hres
              refine c_seq ?_
              refine c_seq ?_
              refine rg ?_
              refine st (v := (I s59.2)) (rv_move rfl) ?_
              refine st (v := (B (decide (s59.2 < 4)))) (rv_lss (a := s59.2) (b := 4) rfl rfl) ?_
              refine w_end ?_
              refine q_then ?_
              refine cd_cond (decide (s59.2 < 4)) rfl (fun hb61 => ?_) (fun hb61 => ?_)
              · replace h := bif_t hb61 h
                refine c_skip ?_
                refine q_then ?_
                refine c_seq ?_
                refine c_blk ?_
                obtain ⟨o62, hj, h'⟩ := bind_some h
                clear h
                refine c_cut (fun e a w => e = .normal ∧ ∃ (ρ : Nat → Value) (σ : St), a = fr 96 (updL ρ [(3, (Sl a5 r2.1 c6)), (4, (Sl a7 r2.2.1 c8)), (5, (Sl a9 r2.2.2 c10)), (6, (Sl a15 r12 c16)), (7, (I s55)), (8, (B o62)), (9, (I s59.2))]) ∧ w = σ.w ∧ Hp S0 σ0 σ [Ch.own n0 n0 (Sl a5 r2.1 c6) r2.1, Ch.own n0 n0 (Sl a7 r2.2.1 c8) r2.2.1, Ch.own n0 n0 (Sl a9 r2.2.2 c10) r2.2.2, Ch.own n0 n0 (Sl a15 r12 c16) r12]) ?_ ?_
                · clear h'
                  rename _ = some o62 => h
                  rcases Bool.eq_false_or_eq_true s59.1 with hb63 | hb63
                  · replace h := bif_t hb63 h
                    obtain ⟨x64, hx65, h'⟩ := bind_some h
                    clear h
                    have h := h'; clear h'
                    obtain ⟨b67, o68, hi66, -⟩ := (H.own 1 rfl).ix hx65
                    have hc69 := ((H.own 1 rfl).at hx65 hi66).int
                    obtain ⟨x70, hx71, h'⟩ := bind_some h
                    clear h
                    have h := h'; clear h'
                    obtain ⟨b73, o74, hi72, -⟩ := (H.own 0 rfl).ix hx71
                    obtain ⟨v78, hc79, hR77⟩ := ((H.own 0 rfl).at hx71 hi72).snd.fst.slice
                    obtain ⟨a75, c76, rfl⟩ := hR77.isSl
                    replace H := H.add (d := Ch.ro n0 (Sl a75 x70.2.1 c76) x70.2.1) hR77 (fun _ h => h)
                    clear hR77
                    obtain ⟨x80, hx81, h'⟩ := bind_some h
                    clear h
                    have h := h'; clear h'
                    obtain ⟨b83, o84, hi82, -⟩ := (H.ro 0 rfl).ix hx81
                    have hc85 := ((H.ro 0 rfl).at hx81 hi82).int
                    rcases Bool.eq_false_or_eq_true (decide (x64 ≤ x80)) with hb86 | hb86
                    · replace h := bif_t hb86 h
                      obtain ⟨x87, hx88, h'⟩ := bind_some h
                      clear h
                      have h := h'; clear h'
                      obtain ⟨b90, o91, hi89, -⟩ := (H.own 1 rfl).ix hx88
                      obtain ⟨v95, hc96, hR94⟩ := ((H.own 1 rfl).at hx88 hi89).snd.fst.slice
                      obtain ⟨a92, c93, rfl⟩ := hR94.isSl
                      replace H := H.add (d := Ch.ro n0 (Sl a92 x87.2.1 c93) x87.2.1) hR94 (fun _ h => h)
                      clear hR94
                      obtain ⟨x97, hx98, h'⟩ := bind_some h
                      clear h
                      have h := h'; clear h'
                      obtain ⟨b100, o101, hi99, -⟩ := (H.ro 0 rfl).ix hx98
                      have hc102 := ((H.ro 0 rfl).at hx98 hi99).int
                      obtain ⟨x103, hx104, h'⟩ := bind_some h
                      clear h
                      have h := h'; clear h'
                      obtain ⟨b106, o107, hi105, -⟩ := (H.own 4 rfl).ix hx104
                      have hc108 := ((H.own 4 rfl).at hx104 hi105).int
                      have Hs := H
                      refine rg2 (σ := σ60) (Nm := Unit) 29 [] [[]] [[(0, 0)], [(0, 0)], [(0, 0)], [(0, 0)], [(0, 0)], [(0, 0)], [(0, 0)], [(0, 0)], [(0, 0)], [(0, 0)], [(0, 0)], [(0, 0)], [(0, 0)], [(0, 0)], [(0, 0)], [(0, 0)], [(0, 0)], [(0, 0)], [(0, 0)], [(0, 0)], [(0, 0)], [(0, 0)], [(0, 0)], [(0, 0)], [(0, 0)], [(0, 0)], [(0, 0)], [(0, 0)], [(0, 0)]] 0 [fun (_nm : Unit) => fun σm => Hp S0 σ0 σm [Ch.ro n0 (Sl a92 x87.2.1 c93) x87.2.1, Ch.ro n0 (Sl a75 x70.2.1 c76) x70.2.1, Ch.own n0 n0 (Sl a5 r2.1 c6) r2.1, Ch.own n0 n0 (Sl a7 r2.2.1 c8) r2.2.1, Ch.own n0 n0 (Sl a9 r2.2.2 c10) r2.2.2, Ch.own n0 n0 (Sl a15 r12 c16) r12] ∧ Md (cov []) σ60 σm] [fun (_nm : Unit) => (B s59.1), fun (_nm : Unit) => (B s59.1), fun (_nm : Unit) => (Sl a7 r2.2.1 c8), fun (_nm : Unit) => (I s59.2), fun (_nm : Unit) => (pt b67 o68), fun (_nm : Unit) => (I x64), fun (_nm : Unit) => (Sl a5 r2.1 c6), fun (_nm : Unit) => (I s55), fun (_nm : Unit) => (pt b73 o74), fun (_nm : Unit) => (pt b73 (o74 + 1)), fun (_nm : Unit) => (Sl a75 x70.2.1 c76), fun (_nm : Unit) => (I s59.2), fun (_nm : Unit) => (pt b83 o84), fun (_nm : Unit) => (I x80), fun (_nm : Unit) => (B (decide (x64 ≤ x80))), fun (_nm : Unit) => (B (decide (x64 ≤ x80))), fun (_nm : Unit) => (B (decide (x64 ≤ x80))), fun (_nm : Unit) => (Sl a5 r2.1 c6), fun (_nm : Unit) => (I s55), fun (_nm : Unit) => (pt b90 o91), fun (_nm : Unit) => (pt b90 (o91 + 1)), fun (_nm : Unit) => (Sl a92 x87.2.1 c93), fun (_nm : Unit) => (I s59.2), fun (_nm : Unit) => (pt b100 o101), fun (_nm : Unit) => (I x97), fun (_nm : Unit) => (Sl a9 r2.2.2 c10), fun (_nm : Unit) => (I s59.2), fun (_nm : Unit) => (pt b106 o107), fun (_nm : Unit) => (I x103)] () (by kernel_rfl) (by kernel_rfl) ?_ ?_ ?_
                      · intro σm m0
                        exact ⟨H.grow (m0.mono fun _ h => h.elim), m0⟩
                      · refine all_cons (obs_v rfl (by
                            intro k; intro _nm ρ σm hJ hoff hdep
                            have e8 : look 96 ρ 8 = (B s59.1) := look_off (hoff 8 rfl) rfl
                            exact dp_v (v := (B s59.1)) (wanted_none _ rfl _) (rv_move e8) rfl hJ)) ?_
                        refine all_cons (obs_v rfl (by
                            intro k; intro _nm ρ σm hJ hoff hdep
                            have e51 : look 96 ρ 51 = (B s59.1) := hdep 0 rfl rfl 51 rfl
                            exact dp_v (v := (B s59.1)) (wanted_none _ rfl _) (rv_move e51) rfl hJ)) ?_
                        refine all_cons (obs_v rfl (by
                            intro k; intro _nm ρ σm hJ hoff hdep
                            have e4 : look 96 ρ 4 = (Sl a7 r2.2.1 c8) := look_off (hoff 4 rfl) rfl
                            have e52 : look 96 ρ 52 = (B s59.1) := hdep 1 rfl rfl 52 rfl
                            exact dp_v (v := (Sl a7 r2.2.1 c8)) (wanted_yes rfl (yv_of rfl (e52.trans (congrArg B hb63)))) (rv_move e4) rfl hJ)) ?_
                        refine all_cons (obs_v rfl (by
                            intro k; intro _nm ρ σm hJ hoff hdep
                            have e9 : look 96 ρ 9 = (I s59.2) := look_off (hoff 9 rfl) rfl
                            have e52 : look 96 ρ 52 = (B s59.1) := hdep 1 rfl rfl 52 rfl
                            exact dp_v (v := (I s59.2)) (wanted_yes rfl (yv_of rfl (e52.trans (congrArg B hb63)))) (rv_move e9) rfl hJ)) ?_
                        refine all_cons (obs_v rfl (by
                            intro k; intro _nm ρ σm hJ hoff hdep
                            have e53 : look 96 ρ 53 = (Sl a7 r2.2.1 c8) := hdep 2 rfl rfl 53 rfl
                            have e54 : look 96 ρ 54 = (I s59.2) := hdep 3 rfl rfl 54 rfl
                            have e52 : look 96 ρ 52 = (B s59.1) := hdep 1 rfl rfl 52 rfl
                            exact dp_v (v := (pt b67 o68)) (wanted_yes rfl (yv_of rfl (e52.trans (congrArg B hb63)))) (rv_ix Try.underlying25 ti3 e53 e54 hi66) rfl hJ)) ?_
                        refine all_cons (by
                            refine ⟨?_, ?_⟩
                            · intro _nm ρ σm hJ hoff hdep
                              have e55 : look 96 ρ 55 = (pt b67 o68) := hdep 4 rfl rfl 55 rfl
                              have e52 : look 96 ρ 52 = (B s59.1) := hdep 1 rfl rfl 52 rfl
                              obtain ⟨H, m⟩ := (show Hp S0 σ0 σm [Ch.ro n0 (Sl a92 x87.2.1 c93) x87.2.1, Ch.ro n0 (Sl a75 x70.2.1 c76) x70.2.1, Ch.own n0 n0 (Sl a5 r2.1 c6) r2.1, Ch.own n0 n0 (Sl a7 r2.2.1 c8) r2.2.1, Ch.own n0 n0 (Sl a9 r2.2.2 c10) r2.2.2, Ch.own n0 n0 (Sl a15 r12 c16) r12] ∧ Md (cov []) σ60 σm from hJ)
                              have hc69 := ((H.own 3 rfl).at hx65 hi66).int
                              exact dp_v (v := (I x64)) (wanted_yes rfl (yv_of rfl (e52.trans (congrArg B hb63)))) (rv_load1 Try.underlying3 rfl e55 hc69) rfl hJ
                            trivial) ?_
                        refine all_cons (obs_v rfl (by
                            intro k; intro _nm ρ σm hJ hoff hdep
                            have e3 : look 96 ρ 3 = (Sl a5 r2.1 c6) := look_off (hoff 3 rfl) rfl
                            have e52 : look 96 ρ 52 = (B s59.1) := hdep 1 rfl rfl 52 rfl
                            exact dp_v (v := (Sl a5 r2.1 c6)) (wanted_yes rfl (yv_of rfl (e52.trans (congrArg B hb63)))) (rv_move e3) rfl hJ)) ?_
                        refine all_cons (obs_v rfl (by
                            intro k; intro _nm ρ σm hJ hoff hdep
                            have e7 : look 96 ρ 7 = (I s55) := look_off (hoff 7 rfl) rfl
                            have e52 : look 96 ρ 52 = (B s59.1) := hdep 1 rfl rfl 52 rfl
                            exact dp_v (v := (I s55)) (wanted_yes rfl (yv_of rfl (e52.trans (congrArg B hb63)))) (rv_move e7) rfl hJ)) ?_
                        refine all_cons (obs_v rfl (by
                            intro k; intro _nm ρ σm hJ hoff hdep
                            have e57 : look 96 ρ 57 = (Sl a5 r2.1 c6) := hdep 6 rfl rfl 57 rfl
                            have e58 : look 96 ρ 58 = (I s55) := hdep 7 rfl rfl 58 rfl
                            have e52 : look 96 ρ 52 = (B s59.1) := hdep 1 rfl rfl 52 rfl
                            exact dp_v (v := (pt b73 o74)) (wanted_yes rfl (yv_of rfl (e52.trans (congrArg B hb63)))) (rv_ix Try.underlying23 ti38 e57 e58 hi72) rfl hJ)) ?_
                        refine all_cons (obs_v rfl (by
                            intro k; intro _nm ρ σm hJ hoff hdep
                            have e59 : look 96 ρ 59 = (pt b73 o74) := hdep 8 rfl rfl 59 rfl
                            have e52 : look 96 ρ 52 = (B s59.1) := hdep 1 rfl rfl 52 rfl
                            exact dp_v (v := (pt b73 (o74 + 1))) (wanted_yes rfl (yv_of rfl (e52.trans (congrArg B hb63)))) (rv_fieldAddr (off := 1) (ft := 25) Try.underlying38 rfl ti25 rfl e59) rfl hJ)) ?_
                        refine all_cons (by
                            refine ⟨?_, ?_⟩
                            · intro _nm ρ σm hJ hoff hdep
                              have e60 : look 96 ρ 60 = (pt b73 (o74 + 1)) := hdep 9 rfl rfl 60 rfl
                              have e52 : look 96 ρ 52 = (B s59.1) := hdep 1 rfl rfl 52 rfl
                              obtain ⟨H, m⟩ := (show Hp S0 σ0 σm [Ch.ro n0 (Sl a92 x87.2.1 c93) x87.2.1, Ch.ro n0 (Sl a75 x70.2.1 c76) x70.2.1, Ch.own n0 n0 (Sl a5 r2.1 c6) r2.1, Ch.own n0 n0 (Sl a7 r2.2.1 c8) r2.2.1, Ch.own n0 n0 (Sl a9 r2.2.2 c10) r2.2.2, Ch.own n0 n0 (Sl a15 r12 c16) r12] ∧ Md (cov []) σ60 σm from hJ)
                              replace hc79 := m.hcell hc79 nocov
                              exact dp_v (v := (Sl a75 x70.2.1 c76)) (wanted_yes rfl (yv_of rfl (e52.trans (congrArg B hb63)))) (rv_load1 Try.underlying25 rfl e60 hc79) rfl hJ
                            trivial) ?_
                        refine all_cons (obs_v rfl (by
                            intro k; intro _nm ρ σm hJ hoff hdep
                            have e9 : look 96 ρ 9 = (I s59.2) := look_off (hoff 9 rfl) rfl
                            have e52 : look 96 ρ 52 = (B s59.1) := hdep 1 rfl rfl 52 rfl
                            exact dp_v (v := (I s59.2)) (wanted_yes rfl (yv_of rfl (e52.trans (congrArg B hb63)))) (rv_move e9) rfl hJ)) ?_
                        refine all_cons (obs_v rfl (by
                            intro k; intro _nm ρ σm hJ hoff hdep
                            have e61 : look 96 ρ 61 = (Sl a75 x70.2.1 c76) := hdep 10 rfl rfl 61 rfl
                            have e62 : look 96 ρ 62 = (I s59.2) := hdep 11 rfl rfl 62 rfl
                            have e52 : look 96 ρ 52 = (B s59.1) := hdep 1 rfl rfl 52 rfl
                            exact dp_v (v := (pt b83 o84)) (wanted_yes rfl (yv_of rfl (e52.trans (congrArg B hb63)))) (rv_ix Try.underlying25 ti3 e61 e62 hi82) rfl hJ)) ?_
                        refine all_cons (by
                            refine ⟨?_, ?_⟩
                            · intro _nm ρ σm hJ hoff hdep
                              have e63 : look 96 ρ 63 = (pt b83 o84) := hdep 12 rfl rfl 63 rfl
                              have e52 : look 96 ρ 52 = (B s59.1) := hdep 1 rfl rfl 52 rfl
                              obtain ⟨H, m⟩ := (show Hp S0 σ0 σm [Ch.ro n0 (Sl a92 x87.2.1 c93) x87.2.1, Ch.ro n0 (Sl a75 x70.2.1 c76) x70.2.1, Ch.own n0 n0 (Sl a5 r2.1 c6) r2.1, Ch.own n0 n0 (Sl a7 r2.2.1 c8) r2.2.1, Ch.own n0 n0 (Sl a9 r2.2.2 c10) r2.2.2, Ch.own n0 n0 (Sl a15 r12 c16) r12] ∧ Md (cov []) σ60 σm from hJ)
                              replace hc85 := (Hs.ro 1 rfl).hmd hx81 hi82 (k := 0) (by decide) hc85 m
                              exact dp_v (v := (I x80)) (wanted_yes rfl (yv_of rfl (e52.trans (congrArg B hb63)))) (rv_load1 Try.underlying3 rfl e63 hc85) rfl hJ
                            trivial) ?_
                        refine all_cons (obs_v rfl (by
                            intro k; intro _nm ρ σm hJ hoff hdep
                            have e56 : look 96 ρ 56 = (I x64) := hdep 5 rfl rfl 56 rfl
                            have e64 : look 96 ρ 64 = (I x80) := hdep 13 rfl rfl 64 rfl
                            have e52 : look 96 ρ 52 = (B s59.1) := hdep 1 rfl rfl 52 rfl
                            exact dp_v (v := (B (decide (x64 ≤ x80)))) (wanted_yes rfl (yv_of rfl (e52.trans (congrArg B hb63)))) (rv_leq (a := x64) (b := x80) e56 e64) rfl hJ)) ?_
                        refine all_cons (obs_v rfl (by
                            intro k; intro _nm ρ σm hJ hoff hdep
                            have e52 : look 96 ρ 52 = (B s59.1) := hdep 1 rfl rfl 52 rfl
                            have e65 : look 96 ρ 65 = (B (decide (x64 ≤ x80))) := hdep 14 rfl rfl 65 rfl
                            exact dp_v (v := (B (decide (x64 ≤ x80)))) (wanted_none _ rfl _) (rv_pick_t (e52.trans (congrArg B hb63)) e65) rfl hJ)) ?_
                        refine all_cons (obs_v rfl (by
                            intro k; intro _nm ρ σm hJ hoff hdep
                            have e66 : look 96 ρ 66 = (B (decide (x64 ≤ x80))) := hdep 15 rfl rfl 66 rfl
                            exact dp_v (v := (B (decide (x64 ≤ x80)))) (wanted_none _ rfl _) (rv_move e66) rfl hJ)) ?_
                        refine all_cons (obs_v rfl (by
                            intro k; intro _nm ρ σm hJ hoff hdep
                            have e3 : look 96 ρ 3 = (Sl a5 r2.1 c6) := look_off (hoff 3 rfl) rfl
                            have e67 : look 96 ρ 67 = (B (decide (x64 ≤ x80))) := hdep 16 rfl rfl 67 rfl
                            exact dp_v (v := (Sl a5 r2.1 c6)) (wanted_yes rfl (yv_of rfl (e67.trans (congrArg B hb86)))) (rv_move e3) rfl hJ)) ?_
                        refine all_cons (obs_v rfl (by
                            intro k; intro _nm ρ σm hJ hoff hdep
                            have e7 : look 96 ρ 7 = (I s55) := look_off (hoff 7 rfl) rfl
                            have e67 : look 96 ρ 67 = (B (decide (x64 ≤ x80))) := hdep 16 rfl rfl 67 rfl
                            exact dp_v (v := (I s55)) (wanted_yes rfl (yv_of rfl (e67.trans (congrArg B hb86)))) (rv_move e7) rfl hJ)) ?_
                        refine all_cons (obs_v rfl (by
                            intro k; intro _nm ρ σm hJ hoff hdep
                            have e68 : look 96 ρ 68 = (Sl a5 r2.1 c6) := hdep 17 rfl rfl 68 rfl
                            have e69 : look 96 ρ 69 = (I s55) := hdep 18 rfl rfl 69 rfl
                            have e67 : look 96 ρ 67 = (B (decide (x64 ≤ x80))) := hdep 16 rfl rfl 67 rfl
                            exact dp_v (v := (pt b90 o91)) (wanted_yes rfl (yv_of rfl (e67.trans (congrArg B hb86)))) (rv_ix Try.underlying23 ti38 e68 e69 hi89) rfl hJ)) ?_
                        refine all_cons (obs_v rfl (by
                            intro k; intro _nm ρ σm hJ hoff hdep
                            have e70 : look 96 ρ 70 = (pt b90 o91) := hdep 19 rfl rfl 70 rfl
                            have e67 : look 96 ρ 67 = (B (decide (x64 ≤ x80))) := hdep 16 rfl rfl 67 rfl
                            exact dp_v (v := (pt b90 (o91 + 1))) (wanted_yes rfl (yv_of rfl (e67.trans (congrArg B hb86)))) (rv_fieldAddr (off := 1) (ft := 25) Try.underlying38 rfl ti25 rfl e70) rfl hJ)) ?_
                        refine all_cons (by
                            refine ⟨?_, ?_⟩
                            · intro _nm ρ σm hJ hoff hdep
                              have e71 : look 96 ρ 71 = (pt b90 (o91 + 1)) := hdep 20 rfl rfl 71 rfl
                              have e67 : look 96 ρ 67 = (B (decide (x64 ≤ x80))) := hdep 16 rfl rfl 67 rfl
                              obtain ⟨H, m⟩ := (show Hp S0 σ0 σm [Ch.ro n0 (Sl a92 x87.2.1 c93) x87.2.1, Ch.ro n0 (Sl a75 x70.2.1 c76) x70.2.1, Ch.own n0 n0 (Sl a5 r2.1 c6) r2.1, Ch.own n0 n0 (Sl a7 r2.2.1 c8) r2.2.1, Ch.own n0 n0 (Sl a9 r2.2.2 c10) r2.2.2, Ch.own n0 n0 (Sl a15 r12 c16) r12] ∧ Md (cov []) σ60 σm from hJ)
                              replace hc96 := m.hcell hc96 nocov
                              exact dp_v (v := (Sl a92 x87.2.1 c93)) (wanted_yes rfl (yv_of rfl (e67.trans (congrArg B hb86)))) (rv_load1 Try.underlying25 rfl e71 hc96) rfl hJ
                            trivial) ?_
                        refine all_cons (obs_v rfl (by
                            intro k; intro _nm ρ σm hJ hoff hdep
                            have e9 : look 96 ρ 9 = (I s59.2) := look_off (hoff 9 rfl) rfl
                            have e67 : look 96 ρ 67 = (B (decide (x64 ≤ x80))) := hdep 16 rfl rfl 67 rfl
                            exact dp_v (v := (I s59.2)) (wanted_yes rfl (yv_of rfl (e67.trans (congrArg B hb86)))) (rv_move e9) rfl hJ)) ?_
                        refine all_cons (obs_v rfl (by
                            intro k; intro _nm ρ σm hJ hoff hdep
                            have e72 : look 96 ρ 72 = (Sl a92 x87.2.1 c93) := hdep 21 rfl rfl 72 rfl
                            have e73 : look 96 ρ 73 = (I s59.2) := hdep 22 rfl rfl 73 rfl
                            have e67 : look 96 ρ 67 = (B (decide (x64 ≤ x80))) := hdep 16 rfl rfl 67 rfl
                            exact dp_v (v := (pt b100 o101)) (wanted_yes rfl (yv_of rfl (e67.trans (congrArg B hb86)))) (rv_ix Try.underlying25 ti3 e72 e73 hi99) rfl hJ)) ?_
                        refine all_cons (by
                            refine ⟨?_, ?_⟩
                            · intro _nm ρ σm hJ hoff hdep
                              have e74 : look 96 ρ 74 = (pt b100 o101) := hdep 23 rfl rfl 74 rfl
                              have e67 : look 96 ρ 67 = (B (decide (x64 ≤ x80))) := hdep 16 rfl rfl 67 rfl
                              obtain ⟨H, m⟩ := (show Hp S0 σ0 σm [Ch.ro n0 (Sl a92 x87.2.1 c93) x87.2.1, Ch.ro n0 (Sl a75 x70.2.1 c76) x70.2.1, Ch.own n0 n0 (Sl a5 r2.1 c6) r2.1, Ch.own n0 n0 (Sl a7 r2.2.1 c8) r2.2.1, Ch.own n0 n0 (Sl a9 r2.2.2 c10) r2.2.2, Ch.own n0 n0 (Sl a15 r12 c16) r12] ∧ Md (cov []) σ60 σm from hJ)
                              replace hc102 := (Hs.ro 0 rfl).hmd hx98 hi99 (k := 0) (by decide) hc102 m
                              exact dp_v (v := (I x97)) (wanted_yes rfl (yv_of rfl (e67.trans (congrArg B hb86)))) (rv_load1 Try.underlying3 rfl e74 hc102) rfl hJ
                            trivial) ?_
                        refine all_cons (obs_v rfl (by
                            intro k; intro _nm ρ σm hJ hoff hdep
                            have e5 : look 96 ρ 5 = (Sl a9 r2.2.2 c10) := look_off (hoff 5 rfl) rfl
                            have e67 : look 96 ρ 67 = (B (decide (x64 ≤ x80))) := hdep 16 rfl rfl 67 rfl
                            exact dp_v (v := (Sl a9 r2.2.2 c10)) (wanted_yes rfl (yv_of rfl (e67.trans (congrArg B hb86)))) (rv_move e5) rfl hJ)) ?_
                        refine all_cons (obs_v rfl (by
                            intro k; intro _nm ρ σm hJ hoff hdep
                            have e9 : look 96 ρ 9 = (I s59.2) := look_off (hoff 9 rfl) rfl
                            have e67 : look 96 ρ 67 = (B (decide (x64 ≤ x80))) := hdep 16 rfl rfl 67 rfl
                            exact dp_v (v := (I s59.2)) (wanted_yes rfl (yv_of rfl (e67.trans (congrArg B hb86)))) (rv_move e9) rfl hJ)) ?_
                        refine all_cons (obs_v rfl (by
                            intro k; intro _nm ρ σm hJ hoff hdep
                            have e76 : look 96 ρ 76 = (Sl a9 r2.2.2 c10) := hdep 25 rfl rfl 76 rfl
                            have e77 : look 96 ρ 77 = (I s59.2) := hdep 26 rfl rfl 77 rfl
                            have e67 : look 96 ρ 67 = (B (decide (x64 ≤ x80))) := hdep 16 rfl rfl 67 rfl
                            exact dp_v (v := (pt b106 o107)) (wanted_yes rfl (yv_of rfl (e67.trans (congrArg B hb86)))) (rv_ix Try.underlying25 ti3 e76 e77 hi105) rfl hJ)) ?_
                        refine all_cons (by
                            refine ⟨?_, ?_⟩
                            · intro _nm ρ σm hJ hoff hdep
                              have e78 : look 96 ρ 78 = (pt b106 o107) := hdep 27 rfl rfl 78 rfl
                              have e67 : look 96 ρ 67 = (B (decide (x64 ≤ x80))) := hdep 16 rfl rfl 67 rfl
                              obtain ⟨H, m⟩ := (show Hp S0 σ0 σm [Ch.ro n0 (Sl a92 x87.2.1 c93) x87.2.1, Ch.ro n0 (Sl a75 x70.2.1 c76) x70.2.1, Ch.own n0 n0 (Sl a5 r2.1 c6) r2.1, Ch.own n0 n0 (Sl a7 r2.2.1 c8) r2.2.1, Ch.own n0 n0 (Sl a9 r2.2.2 c10) r2.2.2, Ch.own n0 n0 (Sl a15 r12 c16) r12] ∧ Md (cov []) σ60 σm from hJ)
                              have hc108 := ((H.own 4 rfl).at hx104 hi105).int
                              exact dp_v (v := (I x103)) (wanted_yes rfl (yv_of rfl (e67.trans (congrArg B hb86)))) (rv_load1 Try.underlying3 rfl e78 hc108) rfl hJ
                            trivial) ?_
                        exact all_nil
                      · intro _nm ρ σ109 hJ hoff hrel
                        have e3 : look 96 ρ 3 = (Sl a5 r2.1 c6) := look_off (hoff 3 rfl) rfl
                        have e4 : look 96 ρ 4 = (Sl a7 r2.2.1 c8) := look_off (hoff 4 rfl) rfl
                        have e5 : look 96 ρ 5 = (Sl a9 r2.2.2 c10) := look_off (hoff 5 rfl) rfl
                        have e6 : look 96 ρ 6 = (Sl a15 r12 c16) := look_off (hoff 6 rfl) rfl
                        have e7 : look 96 ρ 7 = (I s55) := look_off (hoff 7 rfl) rfl
                        have e9 : look 96 ρ 9 = (I s59.2) := look_off (hoff 9 rfl) rfl
                        have e67 : look 96 ρ 67 = (B (decide (x64 ≤ x80))) := hrel 16 rfl 67 rfl
                        have e75 : look 96 ρ 75 = (I x97) := hrel 24 rfl 75 rfl
                        have e79 : look 96 ρ 79 = (I x103) := hrel 28 rfl 79 rfl
                        obtain ⟨H, -⟩ := (show Hp S0 σ0 σ109 [Ch.ro n0 (Sl a92 x87.2.1 c93) x87.2.1, Ch.ro n0 (Sl a75 x70.2.1 c76) x70.2.1, Ch.own n0 n0 (Sl a5 r2.1 c6) r2.1, Ch.own n0 n0 (Sl a7 r2.2.1 c8) r2.2.1, Ch.own n0 n0 (Sl a9 r2.2.2 c10) r2.2.2, Ch.own n0 n0 (Sl a15 r12 c16) r12] ∧ Md (cov []) σ60 σ109 from hJ)
                        clear hJ Hs
                        rw [fr_lookL (L := [(3, (Sl a5 r2.1 c6)), (4, (Sl a7 r2.2.1 c8)), (5, (Sl a9 r2.2.2 c10)), (6, (Sl a15 r12 c16)), (7, (I s55)), (9, (I s59.2)), (67, (B (decide (x64 ≤ x80)))), (75, (I x97)), (79, (I x103))]) ⟨e3, e4, e5, e6, e7, e9, e67, e75, e79, trivial⟩]
                        clear hoff hrel e3 e4 e5 e6 e7 e9 e67 e75 e79
                        refine st_g (v := (B (decide (x97 ≤ x103)))) (congrArg some hb86) (rv_leq (a := x97) (b := x103) rfl rfl) ?_
                        refine st (v := (B (decide (x97 ≤ x103)))) (rv_pick_t (congrArg B hb86) rfl) ?_
                        refine st (v := (B (decide (x97 ≤ x103)))) (rv_assign rfl) ?_
                        refine w_end ?_
                        obtain rfl := Option.some.inj h
                        exact ⟨rfl, _, σ109, fr_join ⟨rfl, rfl, rfl, rfl, rfl, rfl, rfl, trivial⟩, rfl, H.sel' [2, 3, 4, 5] rfl rfl⟩
                    · replace h := bif_f hb86 h
                      have Hs := H
                      refine rg2 (σ := σ60) (Nm := Unit) 29 [] [[]] [[(0, 0)], [(0, 0)], [(0, 0)], [(0, 0)], [(0, 0)], [(0, 0)], [(0, 0)], [(0, 0)], [(0, 0)], [(0, 0)], [(0, 0)], [(0, 0)], [(0, 0)], [(0, 0)], [(0, 0)], [(0, 0)], [(0, 0)], [(0, 0)], [(0, 0)], [(0, 0)], [(0, 0)], [(0, 0)], [(0, 0)], [(0, 0)], [(0, 0)], [(0, 0)], [(0, 0)], [(0, 0)], [(0, 0)]] 0 [fun (_nm : Unit) => fun σm => Hp S0 σ0 σm [Ch.ro n0 (Sl a75 x70.2.1 c76) x70.2.1, Ch.own n0 n0 (Sl a5 r2.1 c6) r2.1, Ch.own n0 n0 (Sl a7 r2.2.1 c8) r2.2.1, Ch.own n0 n0 (Sl a9 r2.2.2 c10) r2.2.2, Ch.own n0 n0 (Sl a15 r12 c16) r12] ∧ Md (cov []) σ60 σm] [fun (_nm : Unit) => (B s59.1), fun (_nm : Unit) => (B s59.1), fun (_nm : Unit) => (Sl a7 r2.2.1 c8), fun (_nm : Unit) => (I s59.2), fun (_nm : Unit) => (pt b67 o68), fun (_nm : Unit) => (I x64), fun (_nm : Unit) => (Sl a5 r2.1 c6), fun (_nm : Unit) => (I s55), fun (_nm : Unit) => (pt b73 o74), fun (_nm : Unit) => (pt b73 (o74 + 1)), fun (_nm : Unit) => (Sl a75 x70.2.1 c76), fun (_nm : Unit) => (I s59.2), fun (_nm : Unit) => (pt b83 o84), fun (_nm : Unit) => (I x80), fun (_nm : Unit) => (B (decide (x64 ≤ x80))), fun (_nm : Unit) => (B (decide (x64 ≤ x80))), fun (_nm : Unit) => (B (decide (x64 ≤ x80))), fun (_nm : Unit) => undef, fun (_nm : Unit) => undef, fun (_nm : Unit) => undef, fun (_nm : Unit) => undef, fun (_nm : Unit) => undef, fun (_nm : Unit) => undef, fun (_nm : Unit) => undef, fun (_nm : Unit) => undef, fun (_nm : Unit) => undef, fun (_nm : Unit) => undef, fun (_nm : Unit) => undef, fun (_nm : Unit) => undef] () (by kernel_rfl) (by kernel_rfl) ?_ ?_ ?_
                      · intro σm m0
                        exact ⟨H.grow (m0.mono fun _ h => h.elim), m0⟩
                      · refine all_cons (obs_v rfl (by
                            intro k; intro _nm ρ σm hJ hoff hdep
                            have e8 : look 96 ρ 8 = (B s59.1) := look_off (hoff 8 rfl) rfl
                            exact dp_v (v := (B s59.1)) (wanted_none _ rfl _) (rv_move e8) rfl hJ)) ?_
                        refine all_cons (obs_v rfl (by
                            intro k; intro _nm ρ σm hJ hoff hdep
                            have e51 : look 96 ρ 51 = (B s59.1) := hdep 0 rfl rfl 51 rfl
                            exact dp_v (v := (B s59.1)) (wanted_none _ rfl _) (rv_move e51) rfl hJ)) ?_
                        refine all_cons (obs_v rfl (by
                            intro k; intro _nm ρ σm hJ hoff hdep
                            have e4 : look 96 ρ 4 = (Sl a7 r2.2.1 c8) := look_off (hoff 4 rfl) rfl
                            have e52 : look 96 ρ 52 = (B s59.1) := hdep 1 rfl rfl 52 rfl
                            exact dp_v (v := (Sl a7 r2.2.1 c8)) (wanted_yes rfl (yv_of rfl (e52.trans (congrArg B hb63)))) (rv_move e4) rfl hJ)) ?_
                        refine all_cons (obs_v rfl (by
                            intro k; intro _nm ρ σm hJ hoff hdep
                            have e9 : look 96 ρ 9 = (I s59.2) := look_off (hoff 9 rfl) rfl
                            have e52 : look 96 ρ 52 = (B s59.1) := hdep 1 rfl rfl 52 rfl
                            exact dp_v (v := (I s59.2)) (wanted_yes rfl (yv_of rfl (e52.trans (congrArg B hb63)))) (rv_move e9) rfl hJ)) ?_
                        refine all_cons (obs_v rfl (by
                            intro k; intro _nm ρ σm hJ hoff hdep
                            have e53 : look 96 ρ 53 = (Sl a7 r2.2.1 c8) := hdep 2 rfl rfl 53 rfl
                            have e54 : look 96 ρ 54 = (I s59.2) := hdep 3 rfl rfl 54 rfl
                            have e52 : look 96 ρ 52 = (B s59.1) := hdep 1 rfl rfl 52 rfl
                            exact dp_v (v := (pt b67 o68)) (wanted_yes rfl (yv_of rfl (e52.trans (congrArg B hb63)))) (rv_ix Try.underlying25 ti3 e53 e54 hi66) rfl hJ)) ?_
                        refine all_cons (by
                            refine ⟨?_, ?_⟩
                            · intro _nm ρ σm hJ hoff hdep
                              have e55 : look 96 ρ 55 = (pt b67 o68) := hdep 4 rfl rfl 55 rfl
                              have e52 : look 96 ρ 52 = (B s59.1) := hdep 1 rfl rfl 52 rfl
                              obtain ⟨H, m⟩ := (show Hp S0 σ0 σm [Ch.ro n0 (Sl a75 x70.2.1 c76) x70.2.1, Ch.own n0 n0 (Sl a5 r2.1 c6) r2.1, Ch.own n0 n0 (Sl a7 r2.2.1 c8) r2.2.1, Ch.own n0 n0 (Sl a9 r2.2.2 c10) r2.2.2, Ch.own n0 n0 (Sl a15 r12 c16) r12] ∧ Md (cov []) σ60 σm from hJ)
                              have hc69 := ((H.own 2 rfl).at hx65 hi66).int
                              exact dp_v (v := (I x64)) (wanted_yes rfl (yv_of rfl (e52.trans (congrArg B hb63)))) (rv_load1 Try.underlying3 rfl e55 hc69) rfl hJ
                            trivial) ?_
                        refine all_cons (obs_v rfl (by
                            intro k; intro _nm ρ σm hJ hoff hdep
                            have e3 : look 96 ρ 3 = (Sl a5 r2.1 c6) := look_off (hoff 3 rfl) rfl
                            have e52 : look 96 ρ 52 = (B s59.1) := hdep 1 rfl rfl 52 rfl
                            exact dp_v (v := (Sl a5 r2.1 c6)) (wanted_yes rfl (yv_of rfl (e52.trans (congrArg B hb63)))) (rv_move e3) rfl hJ)) ?_
                        refine all_cons (obs_v rfl (by
                            intro k; intro _nm ρ σm hJ hoff hdep
                            have e7 : look 96 ρ 7 = (I s55) := look_off (hoff 7 rfl) rfl
                            have e52 : look 96 ρ 52 = (B s59.1) := hdep 1 rfl rfl 52 rfl
                            exact dp_v (v := (I s55)) (wanted_yes rfl (yv_of rfl (e52.trans (congrArg B hb63)))) (rv_move e7) rfl hJ)) ?_
                        refine all_cons (obs_v rfl (by
                            intro k; intro _nm ρ σm hJ hoff hdep
                            have e57 : look 96 ρ 57 = (Sl a5 r2.1 c6) := hdep 6 rfl rfl 57 rfl
                            have e58 : look 96 ρ 58 = (I s55) := hdep 7 rfl rfl 58 rfl
                            have e52 : look 96 ρ 52 = (B s59.1) := hdep 1 rfl rfl 52 rfl
                            exact dp_v (v := (pt b73 o74)) (wanted_yes rfl (yv_of rfl (e52.trans (congrArg B hb63)))) (rv_ix Try.underlying23 ti38 e57 e58 hi72) rfl hJ)) ?_
                        refine all_cons (obs_v rfl (by
                            intro k; intro _nm ρ σm hJ hoff hdep
                            have e59 : look 96 ρ 59 = (pt b73 o74) := hdep 8 rfl rfl 59 rfl
                            have e52 : look 96 ρ 52 = (B s59.1) := hdep 1 rfl rfl 52 rfl
                            exact dp_v (v := (pt b73 (o74 + 1))) (wanted_yes rfl (yv_of rfl (e52.trans (congrArg B hb63)))) (rv_fieldAddr (off := 1) (ft := 25) Try.underlying38 rfl ti25 rfl e59) rfl hJ)) ?_
                        refine all_cons (by
                            refine ⟨?_, ?_⟩
                            · intro _nm ρ σm hJ hoff hdep
                              have e60 : look 96 ρ 60 = (pt b73 (o74 + 1)) := hdep 9 rfl rfl 60 rfl
                              have e52 : look 96 ρ 52 = (B s59.1) := hdep 1 rfl rfl 52 rfl
                              obtain ⟨H, m⟩ := (show Hp S0 σ0 σm [Ch.ro n0 (Sl a75 x70.2.1 c76) x70.2.1, Ch.own n0 n0 (Sl a5 r2.1 c6) r2.1, Ch.own n0 n0 (Sl a7 r2.2.1 c8) r2.2.1, Ch.own n0 n0 (Sl a9 r2.2.2 c10) r2.2.2, Ch.own n0 n0 (Sl a15 r12 c16) r12] ∧ Md (cov []) σ60 σm from hJ)
                              replace hc79 := m.hcell hc79 nocov
                              exact dp_v (v := (Sl a75 x70.2.1 c76)) (wanted_yes rfl (yv_of rfl (e52.trans (congrArg B hb63)))) (rv_load1 Try.underlying25 rfl e60 hc79) rfl hJ
                            trivial) ?_
                        refine all_cons (obs_v rfl (by
                            intro k; intro _nm ρ σm hJ hoff hdep
                            have e9 : look 96 ρ 9 = (I s59.2) := look_off (hoff 9 rfl) rfl
                            have e52 : look 96 ρ 52 = (B s59.1) := hdep 1 rfl rfl 52 rfl
                            exact dp_v (v := (I s59.2)) (wanted_yes rfl (yv_of rfl (e52.trans (congrArg B hb63)))) (rv_move e9) rfl hJ)) ?_
                        refine all_cons (obs_v rfl (by
                            intro k; intro _nm ρ σm hJ hoff hdep
                            have e61 : look 96 ρ 61 = (Sl a75 x70.2.1 c76) := hdep 10 rfl rfl 61 rfl
                            have e62 : look 96 ρ 62 = (I s59.2) := hdep 11 rfl rfl 62 rfl
                            have e52 : look 96 ρ 52 = (B s59.1) := hdep 1 rfl rfl 52 rfl
                            exact dp_v (v := (pt b83 o84)) (wanted_yes rfl (yv_of rfl (e52.trans (congrArg B hb63)))) (rv_ix Try.underlying25 ti3 e61 e62 hi82) rfl hJ)) ?_
                        refine all_cons (by
                            refine ⟨?_, ?_⟩
                            · intro _nm ρ σm hJ hoff hdep
                              have e63 : look 96 ρ 63 = (pt b83 o84) := hdep 12 rfl rfl 63 rfl
                              have e52 : look 96 ρ 52 = (B s59.1) := hdep 1 rfl rfl 52 rfl
                              obtain ⟨H, m⟩ := (show Hp S0 σ0 σm [Ch.ro n0 (Sl a75 x70.2.1 c76) x70.2.1, Ch.own n0 n0 (Sl a5 r2.1 c6) r2.1, Ch.own n0 n0 (Sl a7 r2.2.1 c8) r2.2.1, Ch.own n0 n0 (Sl a9 r2.2.2 c10) r2.2.2, Ch.own n0 n0 (Sl a15 r12 c16) r12] ∧ Md (cov []) σ60 σm from hJ)
                              replace hc85 := (Hs.ro 0 rfl).hmd hx81 hi82 (k := 0) (by decide) hc85 m
                              exact dp_v (v := (I x80)) (wanted_yes rfl (yv_of rfl (e52.trans (congrArg B hb63)))) (rv_load1 Try.underlying3 rfl e63 hc85) rfl hJ
                            trivial) ?_
                        refine all_cons (obs_v rfl (by
                            intro k; intro _nm ρ σm hJ hoff hdep
                            have e56 : look 96 ρ 56 = (I x64) := hdep 5 rfl rfl 56 rfl
                            have e64 : look 96 ρ 64 = (I x80) := hdep 13 rfl rfl 64 rfl
                            have e52 : look 96 ρ 52 = (B s59.1) := hdep 1 rfl rfl 52 rfl
                            exact dp_v (v := (B (decide (x64 ≤ x80)))) (wanted_yes rfl (yv_of rfl (e52.trans (congrArg B hb63)))) (rv_leq (a := x64) (b := x80) e56 e64) rfl hJ)) ?_
                        refine all_cons (obs_v rfl (by
                            intro k; intro _nm ρ σm hJ hoff hdep
                            have e52 : look 96 ρ 52 = (B s59.1) := hdep 1 rfl rfl 52 rfl
                            have e65 : look 96 ρ 65 = (B (decide (x64 ≤ x80))) := hdep 14 rfl rfl 65 rfl
                            exact dp_v (v := (B (decide (x64 ≤ x80)))) (wanted_none _ rfl _) (rv_pick_t (e52.trans (congrArg B hb63)) e65) rfl hJ)) ?_
                        refine all_cons (obs_v rfl (by
                            intro k; intro _nm ρ σm hJ hoff hdep
                            have e66 : look 96 ρ 66 = (B (decide (x64 ≤ x80))) := hdep 15 rfl rfl 66 rfl
                            exact dp_v (v := (B (decide (x64 ≤ x80)))) (wanted_none _ rfl _) (rv_move e66) rfl hJ)) ?_
                        refine all_cons (obs_v rfl (by
                            intro k; intro _nm ρ σm hJ hoff hdep
                            have e67 : look 96 ρ 67 = (B (decide (x64 ≤ x80))) := hdep 16 rfl rfl 67 rfl
                            exact dp_skip (wanted_no rfl (yv_of rfl (e67.trans (congrArg B hb86)))) rfl hJ)) ?_
                        refine all_cons (obs_v rfl (by
                            intro k; intro _nm ρ σm hJ hoff hdep
                            have e67 : look 96 ρ 67 = (B (decide (x64 ≤ x80))) := hdep 16 rfl rfl 67 rfl
                            exact dp_skip (wanted_no rfl (yv_of rfl (e67.trans (congrArg B hb86)))) rfl hJ)) ?_
                        refine all_cons (obs_v rfl (by
                            intro k; intro _nm ρ σm hJ hoff hdep
                            have e67 : look 96 ρ 67 = (B (decide (x64 ≤ x80))) := hdep 16 rfl rfl 67 rfl
                            exact dp_skip (wanted_no rfl (yv_of rfl (e67.trans (congrArg B hb86)))) rfl hJ)) ?_
                        refine all_cons (obs_v rfl (by
                            intro k; intro _nm ρ σm hJ hoff hdep
                            have e67 : look 96 ρ 67 = (B (decide (x64 ≤ x80))) := hdep 16 rfl rfl 67 rfl
                            exact dp_skip (wanted_no rfl (yv_of rfl (e67.trans (congrArg B hb86)))) rfl hJ)) ?_
                        refine all_cons (obs_v rfl (by
                            intro k; intro _nm ρ σm hJ hoff hdep
                            have e67 : look 96 ρ 67 = (B (decide (x64 ≤ x80))) := hdep 16 rfl rfl 67 rfl
                            exact dp_skip (wanted_no rfl (yv_of rfl (e67.trans (congrArg B hb86)))) rfl hJ)) ?_
                        refine all_cons (obs_v rfl (by
                            intro k; intro _nm ρ σm hJ hoff hdep
                            have e67 : look 96 ρ 67 = (B (decide (x64 ≤ x80))) := hdep 16 rfl rfl 67 rfl
                            exact dp_skip (wanted_no rfl (yv_of rfl (e67.trans (congrArg B hb86)))) rfl hJ)) ?_
                        refine all_cons (obs_v rfl (by
                            intro k; intro _nm ρ σm hJ hoff hdep
                            have e67 : look 96 ρ 67 = (B (decide (x64 ≤ x80))) := hdep 16 rfl rfl 67 rfl
                            exact dp_skip (wanted_no rfl (yv_of rfl (e67.trans (congrArg B hb86)))) rfl hJ)) ?_
                        refine all_cons (obs_v rfl (by
                            intro k; intro _nm ρ σm hJ hoff hdep
                            have e67 : look 96 ρ 67 = (B (decide (x64 ≤ x80))) := hdep 16 rfl rfl 67 rfl
                            exact dp_skip (wanted_no rfl (yv_of rfl (e67.trans (congrArg B hb86)))) rfl hJ)) ?_
                        refine all_cons (obs_v rfl (by
                            intro k; intro _nm ρ σm hJ hoff hdep
                            have e67 : look 96 ρ 67 = (B (decide (x64 ≤ x80))) := hdep 16 rfl rfl 67 rfl
                            exact dp_skip (wanted_no rfl (yv_of rfl (e67.trans (congrArg B hb86)))) rfl hJ)) ?_
                        refine all_cons (obs_v rfl (by
                            intro k; intro _nm ρ σm hJ hoff hdep
                            have e67 : look 96 ρ 67 = (B (decide (x64 ≤ x80))) := hdep 16 rfl rfl 67 rfl
                            exact dp_skip (wanted_no rfl (yv_of rfl (e67.trans (congrArg B hb86)))) rfl hJ)) ?_
                        refine all_cons (obs_v rfl (by
                            intro k; intro _nm ρ σm hJ hoff hdep
                            have e67 : look 96 ρ 67 = (B (decide (x64 ≤ x80))) := hdep 16 rfl rfl 67 rfl
                            exact dp_skip (wanted_no rfl (yv_of rfl (e67.trans (congrArg B hb86)))) rfl hJ)) ?_
                        refine all_cons (obs_v rfl (by
                            intro k; intro _nm ρ σm hJ hoff hdep
                            have e67 : look 96 ρ 67 = (B (decide (x64 ≤ x80))) := hdep 16 rfl rfl 67 rfl
                            exact dp_skip (wanted_no rfl (yv_of rfl (e67.trans (congrArg B hb86)))) rfl hJ)) ?_
                        exact all_nil
                      · intro _nm ρ σ110 hJ hoff hrel
                        have e3 : look 96 ρ 3 = (Sl a5 r2.1 c6) := look_off (hoff 3 rfl) rfl
                        have e4 : look 96 ρ 4 = (Sl a7 r2.2.1 c8) := look_off (hoff 4 rfl) rfl
                        have e5 : look 96 ρ 5 = (Sl a9 r2.2.2 c10) := look_off (hoff 5 rfl) rfl
                        have e6 : look 96 ρ 6 = (Sl a15 r12 c16) := look_off (hoff 6 rfl) rfl
                        have e7 : look 96 ρ 7 = (I s55) := look_off (hoff 7 rfl) rfl
                        have e9 : look 96 ρ 9 = (I s59.2) := look_off (hoff 9 rfl) rfl
                        have e67 : look 96 ρ 67 = (B (decide (x64 ≤ x80))) := hrel 16 rfl 67 rfl
                        have e75 : look 96 ρ 75 = undef := hrel 24 rfl 75 rfl
                        have e79 : look 96 ρ 79 = undef := hrel 28 rfl 79 rfl
                        obtain ⟨H, -⟩ := (show Hp S0 σ0 σ110 [Ch.ro n0 (Sl a75 x70.2.1 c76) x70.2.1, Ch.own n0 n0 (Sl a5 r2.1 c6) r2.1, Ch.own n0 n0 (Sl a7 r2.2.1 c8) r2.2.1, Ch.own n0 n0 (Sl a9 r2.2.2 c10) r2.2.2, Ch.own n0 n0 (Sl a15 r12 c16) r12] ∧ Md (cov []) σ60 σ110 from hJ)
                        clear hJ Hs
                        rw [fr_lookL (L := [(3, (Sl a5 r2.1 c6)), (4, (Sl a7 r2.2.1 c8)), (5, (Sl a9 r2.2.2 c10)), (6, (Sl a15 r12 c16)), (7, (I s55)), (9, (I s59.2)), (67, (B (decide (x64 ≤ x80)))), (75, undef), (79, undef)]) ⟨e3, e4, e5, e6, e7, e9, e67, e75, e79, trivial⟩]
                        clear hoff hrel e3 e4 e5 e6 e7 e9 e67 e75 e79
                        refine st_skip (congrArg some hb86) ?_
                        refine st (v := (B false)) (rv_pick_f (congrArg B hb86) rfl) ?_
                        refine st (v := (B false)) (rv_assign rfl) ?_
                        refine w_end ?_
                        obtain rfl := Option.some.inj h
                        exact ⟨rfl, _, σ110, fr_join ⟨rfl, rfl, rfl, rfl, rfl, rfl, rfl, trivial⟩, rfl, H.sel' [1, 2, 3, 4] rfl rfl⟩
                  · replace h := bif_f hb63 h
                    have Hs := H
                    refine rg2 (σ := σ60) (Nm := Unit) 29 [] [[]] [[(0, 0)], [(0, 0)], [(0, 0)], [(0, 0)], [(0, 0)], [(0, 0)], [(0, 0)], [(0, 0)], [(0, 0)], [(0, 0)], [(0, 0)], [(0, 0)], [(0, 0)], [(0, 0)], [(0, 0)], [(0, 0)], [(0, 0)], [(0, 0)], [(0, 0)], [(0, 0)], [(0, 0)], [(0, 0)], [(0, 0)], [(0, 0)], [(0, 0)], [(0, 0)], [(0, 0)], [(0, 0)], [(0, 0)]] 0 [fun (_nm : Unit) => fun σm => Hp S0 σ0 σm [Ch.own n0 n0 (Sl a5 r2.1 c6) r2.1, Ch.own n0 n0 (Sl a7 r2.2.1 c8) r2.2.1, Ch.own n0 n0 (Sl a9 r2.2.2 c10) r2.2.2, Ch.own n0 n0 (Sl a15 r12 c16) r12] ∧ Md (cov []) σ60 σm] [fun (_nm : Unit) => (B s59.1), fun (_nm : Unit) => (B s59.1), fun (_nm : Unit) => undef, fun (_nm : Unit) => undef, fun (_nm : Unit) => undef, fun (_nm : Unit) => undef, fun (_nm : Unit) => undef, fun (_nm : Unit) => undef, fun (_nm : Unit) => undef, fun (_nm : Unit) => undef, fun (_nm : Unit) => undef, fun (_nm : Unit) => undef, fun (_nm : Unit) => undef, fun (_nm : Unit) => undef, fun (_nm : Unit) => undef, fun (_nm : Unit) => (B false), fun (_nm : Unit) => (B false), fun (_nm : Unit) => undef, fun (_nm : Unit) => undef, fun (_nm : Unit) => undef, fun (_nm : Unit) => undef, fun (_nm : Unit) => undef, fun (_nm : Unit) => undef, fun (_nm : Unit) => undef, fun (_nm : Unit) => undef, fun (_nm : Unit) => undef, fun (_nm : Unit) => undef, fun (_nm : Unit) => undef, fun (_nm : Unit) => undef] () (by kernel_rfl) (by kernel_rfl) ?_ ?_ ?_
                    · intro σm m0
                      exact ⟨H.grow (m0.mono fun _ h => h.elim), m0⟩
                    · refine all_cons (obs_v rfl (by
                          intro k; intro _nm ρ σm hJ hoff hdep
                          have e8 : look 96 ρ 8 = (B s59.1) := look_off (hoff 8 rfl) rfl
                          exact dp_v (v := (B s59.1)) (wanted_none _ rfl _) (rv_move e8) rfl hJ)) ?_
                      refine all_cons (obs_v rfl (by
                          intro k; intro _nm ρ σm hJ hoff hdep
                          have e51 : look 96 ρ 51 = (B s59.1) := hdep 0 rfl rfl 51 rfl
                          exact dp_v (v := (B s59.1)) (wanted_none _ rfl _) (rv_move e51) rfl hJ)) ?_
                      refine all_cons (obs_v rfl (by
                          intro k; intro _nm ρ σm hJ hoff hdep
                          have e52 : look 96 ρ 52 = (B s59.1) := hdep 1 rfl rfl 52 rfl
                          exact dp_skip (wanted_no rfl (yv_of rfl (e52.trans (congrArg B hb63)))) rfl hJ)) ?_
                      refine all_cons (obs_v rfl (by
                          intro k; intro _nm ρ σm hJ hoff hdep
                          have e52 : look 96 ρ 52 = (B s59.1) := hdep 1 rfl rfl 52 rfl
                          exact dp_skip (wanted_no rfl (yv_of rfl (e52.trans (congrArg B hb63)))) rfl hJ)) ?_
                      refine all_cons (obs_v rfl (by
                          intro k; intro _nm ρ σm hJ hoff hdep
                          have e52 : look 96 ρ 52 = (B s59.1) := hdep 1 rfl rfl 52 rfl
                          exact dp_skip (wanted_no rfl (yv_of rfl (e52.trans (congrArg B hb63)))) rfl hJ)) ?_
                      refine all_cons (obs_v rfl (by
                          intro k; intro _nm ρ σm hJ hoff hdep
                          have e52 : look 96 ρ 52 = (B s59.1) := hdep 1 rfl rfl 52 rfl
                          exact dp_skip (wanted_no rfl (yv_of rfl (e52.trans (congrArg B hb63)))) rfl hJ)) ?_
                      refine all_cons (obs_v rfl (by
                          intro k; intro _nm ρ σm hJ hoff hdep
                          have e52 : look 96 ρ 52 = (B s59.1) := hdep 1 rfl rfl 52 rfl
                          exact dp_skip (wanted_no rfl (yv_of rfl (e52.trans (congrArg B hb63)))) rfl hJ)) ?_
                      refine all_cons (obs_v rfl (by
                          intro k; intro _nm ρ σm hJ hoff hdep
                          have e52 : look 96 ρ 52 = (B s59.1) := hdep 1 rfl rfl 52 rfl
                          exact dp_skip (wanted_no rfl (yv_of rfl (e52.trans (congrArg B hb63)))) rfl hJ)) ?_
                      refine all_cons (obs_v rfl (by
                          intro k; intro _nm ρ σm hJ hoff hdep
                          have e52 : look 96 ρ 52 = (B s59.1) := hdep 1 rfl rfl 52 rfl
                          exact dp_skip (wanted_no rfl (yv_of rfl (e52.trans (congrArg B hb63)))) rfl hJ)) ?_
                      refine all_cons (obs_v rfl (by
                          intro k; intro _nm ρ σm hJ hoff hdep
                          have e52 : look 96 ρ 52 = (B s59.1) := hdep 1 rfl rfl 52 rfl
                          exact dp_skip (wanted_no rfl (yv_of rfl (e52.trans (congrArg B hb63)))) rfl hJ)) ?_
                      refine all_cons (obs_v rfl (by
                          intro k; intro _nm ρ σm hJ hoff hdep
                          have e52 : look 96 ρ 52 = (B s59.1) := hdep 1 rfl rfl 52 rfl
                          exact dp_skip (wanted_no rfl (yv_of rfl (e52.trans (congrArg B hb63)))) rfl hJ)) ?_
                      refine all_cons (obs_v rfl (by
                          intro k; intro _nm ρ σm hJ hoff hdep
                          have e52 : look 96 ρ 52 = (B s59.1) := hdep 1 rfl rfl 52 rfl
                          exact dp_skip (wanted_no rfl (yv_of rfl (e52.trans (congrArg B hb63)))) rfl hJ)) ?_
                      refine all_cons (obs_v rfl (by
                          intro k; intro _nm ρ σm hJ hoff hdep
                          have e52 : look 96 ρ 52 = (B s59.1) := hdep 1 rfl rfl 52 rfl
                          exact dp_skip (wanted_no rfl (yv_of rfl (e52.trans (congrArg B hb63)))) rfl hJ)) ?_
                      refine all_cons (obs_v rfl (by
                          intro k; intro _nm ρ σm hJ hoff hdep
                          have e52 : look 96 ρ 52 = (B s59.1) := hdep 1 rfl rfl 52 rfl
                          exact dp_skip (wanted_no rfl (yv_of rfl (e52.trans (congrArg B hb63)))) rfl hJ)) ?_
                      refine all_cons (obs_v rfl (by
                          intro k; intro _nm ρ σm hJ hoff hdep
                          have e52 : look 96 ρ 52 = (B s59.1) := hdep 1 rfl rfl 52 rfl
                          exact dp_skip (wanted_no rfl (yv_of rfl (e52.trans (congrArg B hb63)))) rfl hJ)) ?_
                      refine all_cons (obs_v rfl (by
                          intro k; intro _nm ρ σm hJ hoff hdep
                          have e52 : look 96 ρ 52 = (B s59.1) := hdep 1 rfl rfl 52 rfl
                          exact dp_v (v := (B false)) (wanted_none _ rfl _) (rv_pick_f (e52.trans (congrArg B hb63)) rfl) rfl hJ)) ?_
                      refine all_cons (obs_v rfl (by
                          intro k; intro _nm ρ σm hJ hoff hdep
                          have e66 : look 96 ρ 66 = (B false) := hdep 15 rfl rfl 66 rfl
                          exact dp_v (v := (B false)) (wanted_none _ rfl _) (rv_move e66) rfl hJ)) ?_
                      refine all_cons (obs_v rfl (by
                          intro k; intro _nm ρ σm hJ hoff hdep
                          have e67 : look 96 ρ 67 = (B false) := hdep 16 rfl rfl 67 rfl
                          exact dp_skip (wanted_no rfl (yv_of rfl e67)) rfl hJ)) ?_
                      refine all_cons (obs_v rfl (by
                          intro k; intro _nm ρ σm hJ hoff hdep
                          have e67 : look 96 ρ 67 = (B false) := hdep 16 rfl rfl 67 rfl
                          exact dp_skip (wanted_no rfl (yv_of rfl e67)) rfl hJ)) ?_
                      refine all_cons (obs_v rfl (by
                          intro k; intro _nm ρ σm hJ hoff hdep
                          have e67 : look 96 ρ 67 = (B false) := hdep 16 rfl rfl 67 rfl
                          exact dp_skip (wanted_no rfl (yv_of rfl e67)) rfl hJ)) ?_
                      refine all_cons (obs_v rfl (by
                          intro k; intro _nm ρ σm hJ hoff hdep
                          have e67 : look 96 ρ 67 = (B false) := hdep 16 rfl rfl 67 rfl
                          exact dp_skip (wanted_no rfl (yv_of rfl e67)) rfl hJ)) ?_
                      refine all_cons (obs_v rfl (by
                          intro k; intro _nm ρ σm hJ hoff hdep
                          have e67 : look 96 ρ 67 = (B false) := hdep 16 rfl rfl 67 rfl
                          exact dp_skip (wanted_no rfl (yv_of rfl e67)) rfl hJ)) ?_
                      refine all_cons (obs_v rfl (by
                          intro k; intro _nm ρ σm hJ hoff hdep
                          have e67 : look 96 ρ 67 = (B false) := hdep 16 rfl rfl 67 rfl
                          exact dp_skip (wanted_no rfl (yv_of rfl e67)) rfl hJ)) ?_
                      refine all_cons (obs_v rfl (by
                          intro k; intro _nm ρ σm hJ hoff hdep
                          have e67 : look 96 ρ 67 = (B false) := hdep 16 rfl rfl 67 rfl
                          exact dp_skip (wanted_no rfl (yv_of rfl e67)) rfl hJ)) ?_
                      refine all_cons (obs_v rfl (by
                          intro k; intro _nm ρ σm hJ hoff hdep
                          have e67 : look 96 ρ 67 = (B false) := hdep 16 rfl rfl 67 rfl
                          exact dp_skip (wanted_no rfl (yv_of rfl e67)) rfl hJ)) ?_
                      refine all_cons (obs_v rfl (by
                          intro k; intro _nm ρ σm hJ hoff hdep
                          have e67 : look 96 ρ 67 = (B false) := hdep 16 rfl rfl 67 rfl
                          exact dp_skip (wanted_no rfl (yv_of rfl e67)) rfl hJ)) ?_
                      refine all_cons (obs_v rfl (by
                          intro k; intro _nm ρ σm hJ hoff hdep
                          have e67 : look 96 ρ 67 = (B false) := hdep 16 rfl rfl 67 rfl
                          exact dp_skip (wanted_no rfl (yv_of rfl e67)) rfl hJ)) ?_
                      refine all_cons (obs_v rfl (by
                          intro k; intro _nm ρ σm hJ hoff hdep
                          have e67 : look 96 ρ 67 = (B false) := hdep 16 rfl rfl 67 rfl
                          exact dp_skip (wanted_no rfl (yv_of rfl e67)) rfl hJ)) ?_
                      refine all_cons (obs_v rfl (by
                          intro k; intro _nm ρ σm hJ hoff hdep
                          have e67 : look 96 ρ 67 = (B false) := hdep 16 rfl rfl 67 rfl
                          exact dp_skip (wanted_no rfl (yv_of rfl e67)) rfl hJ)) ?_
                      exact all_nil
                    · intro _nm ρ σ111 hJ hoff hrel
                      have e3 : look 96 ρ 3 = (Sl a5 r2.1 c6) := look_off (hoff 3 rfl) rfl
                      have e4 : look 96 ρ 4 = (Sl a7 r2.2.1 c8) := look_off (hoff 4 rfl) rfl
                      have e5 : look 96 ρ 5 = (Sl a9 r2.2.2 c10) := look_off (hoff 5 rfl) rfl
                      have e6 : look 96 ρ 6 = (Sl a15 r12 c16) := look_off (hoff 6 rfl) rfl
                      have e7 : look 96 ρ 7 = (I s55) := look_off (hoff 7 rfl) rfl
                      have e9 : look 96 ρ 9 = (I s59.2) := look_off (hoff 9 rfl) rfl
                      have e67 : look 96 ρ 67 = (B false) := hrel 16 rfl 67 rfl
                      have e75 : look 96 ρ 75 = undef := hrel 24 rfl 75 rfl
                      have e79 : look 96 ρ 79 = undef := hrel 28 rfl 79 rfl
                      obtain ⟨H, -⟩ := (show Hp S0 σ0 σ111 [Ch.own n0 n0 (Sl a5 r2.1 c6) r2.1, Ch.own n0 n0 (Sl a7 r2.2.1 c8) r2.2.1, Ch.own n0 n0 (Sl a9 r2.2.2 c10) r2.2.2, Ch.own n0 n0 (Sl a15 r12 c16) r12] ∧ Md (cov []) σ60 σ111 from hJ)
                      clear hJ Hs
                      rw [fr_lookL (L := [(3, (Sl a5 r2.1 c6)), (4, (Sl a7 r2.2.1 c8)), (5, (Sl a9 r2.2.2 c10)), (6, (Sl a15 r12 c16)), (7, (I s55)), (9, (I s59.2)), (67, (B false)), (75, undef), (79, undef)]) ⟨e3, e4, e5, e6, e7, e9, e67, e75, e79, trivial⟩]
                      clear hoff hrel e3 e4 e5 e6 e7 e9 e67 e75 e79
                      refine st_skip rfl ?_
                      refine st (v := (B false)) (rv_pick_f rfl rfl) ?_
                      refine st (v := (B false)) (rv_assign rfl) ?_
                      refine w_end ?_
                      obtain rfl := Option.some.inj h
                      exact ⟨rfl, _, σ111, fr_join ⟨rfl, rfl, rfl, rfl, rfl, rfl, rfl, trivial⟩, rfl, H.sel' [0, 1, 2, 3] rfl rfl⟩
                · clear hj
                  have h := h'
                  clear h' H
                  rintro e a w ⟨rfl, ρ, σ112, rfl, rfl, H⟩
                  refine q_blk ?_
                  refine q_then ?_
                  refine rg ?_
                  refine st (v := (I s59.2)) (rv_move rfl) ?_
                  refine st (v := (I (w64 (s59.2 + 1)))) (rv_add (a := s59.2) (b := 1) rfl rfl) ?_
                  refine st (v := (I (w64 (s59.2 + 1)))) (rv_assign rfl) ?_
                  refine w_end ?_
                  refine q_then ?_
                  obtain rfl := Option.some.inj h
                  exact ⟨_, rfl, _, σ112, fr_join ⟨rfl, rfl, rfl, rfl, rfl, rfl, rfl, trivial⟩, rfl, H.sel' [0, 1, 2, 3] rfl rfl⟩
              · replace h := bif_f hb61 h
                refine c_exit ?_
                refine q_then_x ?_
                refine q_then_x ?_
                refine q_blk_hit ?_
                obtain rfl := Option.some.inj h
                obtain rfl := hres _ rfl
                exact ⟨rfl, _, σ60, fr_join ⟨rfl, rfl, rfl, rfl, rfl, rfl, trivial⟩, rfl, H.sel' [0, 1, 2, 3] rfl rfl⟩
            · clear hj
              have h := h'
              clear h' H
              rintro e a w ⟨rfl, ρ, σ113, rfl, rfl, H⟩
              refine q_then ?_
              refine c_seq ?_
              refine rg ?_
              refine st (v := (Sl a15 r12 c16)) (rv_move rfl) ?_
              refine st (v := (Sl a5 r2.1 c6)) (rv_move rfl) ?_
              refine st (v := (I s55)) (rv_move rfl) ?_
              obtain ⟨x114, hx115, h'⟩ := bind_some h
              clear h
              have h := h'; clear h'
              obtain ⟨b117, o118, hi116, -⟩ := (H.own 0 rfl).ix hx115
              refine st (v := (pt b117 o118)) (rv_ix Try.underlying23 ti38 rfl rfl hi116) ?_
              refine st (v := (pt b117 (o118 + 0))) (rv_fieldAddr (off := 0) (ft := 3) Try.underlying38 rfl ti3 rfl rfl) ?_
              have hc119 := ((H.own 0 rfl).at hx115 hi116).fst.int
              refine st (v := (I x114.1)) (rv_load1 Try.underlying3 rfl rfl hc119) ?_
              obtain ⟨r120, hx121, h'⟩ := bind_some h
              clear h
              have h := h'; clear h'
              have hc122 := c_laws_isIn (alist_0 := a15) (clist_0 := c16) hx121
              have hle := Nat.le_trans hn0 H.size
              refine st_call (cx_lend (Loan.lend Loan.nil) hc122 (ent_f hc122.fn rfl) (show Hp S0 σ0 _ ([Ch.own n0 n0 (Sl a15 r12 c16) r12] ++ ([] ++ [Ch.own n0 n0 (Sl a5 r2.1 c6) r2.1, Ch.own n0 n0 (Sl a7 r2.2.1 c8) r2.2.1, Ch.own n0 n0 (Sl a9 r2.2.2 c10) r2.2.2])) from (H.sel' [3, 0, 1, 2] rfl rfl)) (by rintro _ _ _ ⟨rfl, rfl⟩; exact trivial)) (wanted_none _ rfl _) ?_
              rintro _ σ123 ⟨_, ⟨rfl, rfl⟩, H, -, -⟩
              replace H : Hp S0 σ0 σ123 [Ch.own n0 n0 (Sl a15 r12 c16) r12, Ch.own n0 n0 (Sl a5 r2.1 c6) r2.1, Ch.own n0 n0 (Sl a7 r2.2.1 c8) r2.2.1, Ch.own n0 n0 (Sl a9 r2.2.2 c10) r2.2.2] := H
              clear hle
              replace H : Hp S0 σ0 σ123 [Ch.own n0 n0 (Sl a15 r12 c16) r12, Ch.own n0 n0 (Sl a5 r2.1 c6) r2.1, Ch.own n0 n0 (Sl a7 r2.2.1 c8) r2.2.1, Ch.own n0 n0 (Sl a9 r2.2.2 c10) r2.2.2] := H
              refine st (v := (B o58)) (rv_move rfl) ?_
              refine st (v := (B (r120 != o58))) (rv_bneq Try.underlying4 rfl rfl) ?_
              refine w_end ?_
              refine q_then ?_
              refine cd_cond (r120 != o58) rfl (fun hb124 => ?_) (fun hb124 => ?_)
              · replace h := bif_t hb124 h
                refine c_seq ?_
                refine rg ?_
                refine st (v := (B false)) (rv_assign rfl) ?_
                refine w_end ?_
                refine q_then ?_
                refine c_ret ?_
                refine q_blk_r ?_
                refine q_then_r ?_
                refine q_then_r ?_
                refine q_blk_r ?_
                obtain rfl := Option.some.inj h
                obtain rfl := hres _ rfl
                exact .inr (⟨_, rfl, rfl, _, σ123, fr_join ⟨rfl, trivial⟩, rfl, H.sel' [] rfl rfl⟩)
              · replace h := bif_f hb124 h
                refine c_skip ?_
                refine q_blk ?_
                refine q_then ?_
                refine rg ?_
                refine st (v := (I s55)) (rv_move rfl) ?_
                refine st (v := (I (w64 (s55 + 1)))) (rv_add (a := s55) (b := 1) rfl rfl) ?_
                refine st (v := (I (w64 (s55 + 1)))) (rv_assign rfl) ?_
                refine w_end ?_
                refine q_then ?_
                obtain rfl := Option.some.inj h
                exact ⟨_, rfl, _, σ123, fr_join ⟨rfl, rfl, rfl, rfl, rfl, trivial⟩, rfl, H.sel' [1, 2, 3, 0] rfl rfl⟩
          · replace h := bif_f hb57 h
            refine c_exit ?_
            refine q_then_x ?_
            refine q_then_x ?_
            refine q_blk_hit ?_
            obtain rfl := Option.some.inj h
            obtain rfl := hres _ rfl
            exact .inl ⟨_, rfl, rfl, _, σ56, fr_join ⟨rfl, rfl, trivial⟩, rfl, H.sel' [0, 3] rfl rfl⟩
        · clear hj
          have h := h'
          clear h' H
          rintro e a w (⟨t125, rfl, rfl, ρ, σ126, rfl, rfl, H⟩ | ⟨t127, rfl, rfl, ρ, σ128, rfl, rfl, H⟩)
          · replace h := selim_l h
            refine q_then ?_
            refine c_seq ?_
            refine rg ?_
            refine st (v := (Sl a15 r12 c16)) (rv_move rfl) ?_
            refine st (v := (I (r12.length : Int))) (rv_len Try.underlying25 rfl) ?_
            refine st (v := (Sl a5 r2.1 c6)) (rv_move rfl) ?_
            refine st (v := (I (r2.1.length : Int))) (rv_len Try.underlying23 rfl) ?_
            refine st (v := (B (decide ((r12.length : Int) ≤ (r2.1.length : Int))))) (rv_leq (a := (r12.length : Int)) (b := (r2.1.length : Int)) rfl rfl) ?_
            refine st (v := (B (decide ((r12.length : Int) ≤ (r2.1.length : Int))))) (rv_assign rfl) ?_
            refine w_end ?_
            refine q_then ?_
            refine c_ret ?_
            obtain rfl := Option.some.inj h
            exact fin_ret (v := (B (decide ((r12.length : Int) ≤ (r2.1.length : Int))))) (results_ok Try.results8 (res_tmp (v := (B (decide ((r12.length : Int) ≤ (r2.1.length : Int))))) rfl res_nil) rfl) ⟨rfl, rfl⟩ (H.sel' [] rfl rfl)
          · replace h := selim_r h
            refine q_then_r ?_
            obtain rfl := Option.some.inj h
            exact fin_ret (v := (B t127)) (results_ok Try.results8 (res_tmp (v := (B t127)) rfl res_nil) rfl) ⟨rfl, rfl⟩ (H.sel' [] rfl rfl)

end Go.Vs
