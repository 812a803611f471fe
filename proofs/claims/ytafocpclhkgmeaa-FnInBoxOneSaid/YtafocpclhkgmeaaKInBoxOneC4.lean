/- The functions compute what their models say. -/
import Derived.Test.YtafocpclhkgmeaaKInBoxOneC3
set_option linter.unusedVariables false
set_option linter.unusedSimpArgs false
set_option maxRecDepth 20000
namespace Go.Vs
open Go Go.Proofs
attribute [local irreducible] Code.wp Code.wpIn wpList wpListIn wpQuiet Calls CallsIn

theorem c_spec_DrawInBox {Et : List UInt8} {Eu : Option Addr} {Ev : Nat} {r : (List (Int × (List Int) × Int)) × (List Int) × (List Int)} (h : M.spec_DrawInBox Et = some r) :
    Cal2 Try.prog 35 [(Sl Eu Et Ev)] [Ch.ro 0 (Sl Eu Et Ev) Et] (fun n0 v L => ∃ (az1 : Option Addr), ∃ (cz2 : Nat), ∃ (az3 : Option Addr), ∃ (cz4 : Nat), ∃ (az5 : Option Addr), ∃ (cz6 : Nat), v = (.tuple #[(Sl az1 r.1 cz2), (Sl az3 r.2.1 cz4), (Sl az5 r.2.2 cz6)]) ∧ L = [Ch.own n0 n0 (Sl az1 r.1 cz2) r.1, Ch.own n0 n0 (Sl az3 r.2.1 cz4) r.2.1, Ch.own n0 n0 (Sl az5 r.2.2 cz6) r.2.2]) := by
 refine cal2 (n := 63) Try.func35 rfl rfl rfl rfl ?_
 intro S0 σ0 n0 hn0 H
 unfold M.spec_DrawInBox at h
 refine c_seq (rg (sa (.slice none 0 0) rfl (sa (.slice none 0 0) rfl (sa (.slice none 0 0) rfl (w_end (q_then (c_seq (rg (sm (Sl Eu Et Ev) rfl ?_)))))))))
 revert h; refine br fun r1 hx2 h => ?_
 have hc3 := c_spec_newReader (Eu := Eu) (Ev := Ev) hx2
 refine st_call (cx_call hc3 (ent_f hc3.fn rfl) hn0 (H.sel' [0, 0] rfl rfl : Hp S0 σ0 _ ([_] ++ _))) wn ?_
 rintro _ σ7 ⟨_, ⟨b4, a5, c6, rfl, rfl⟩, H, -⟩
 replace H : Hp _ _ _ [_, _, _] := H
 refine sa (pt b4 0) rfl (w_end (q_then (c_seq (rg (sm (pt b4 0) rfl ?_)))))
 revert h; refine br fun r8 hx9 h => ?_
 have hc10 := c_spec_anyStore (Cl := n0) (Cm := b4) (Cn := 0) (Cp := []) (Cq := []) (Ey := a5) (Ez := c6) hx9
 refine st_call (cx_call hc10 (ent_f hc10.fn rfl) hn0 (H.sel' [0, 1, 1, 2] rfl rfl : Hp S0 σ0 _ ([_, _] ++ _))) wn ?_
 rintro _ σ15 ⟨_, ⟨a11, c12, a13, c14, rfl, rfl⟩, H, -⟩
 replace H : Hp _ _ _ [_, _, _, _, _] := H
 refine sa (Sl a11 r8.1 c12) rfl (w_end (q_then (c_seq (rg (sm (pt b4 0) rfl ?_)))))
 revert h; refine br fun r16 hx17 h => ?_
 have hc18 := c_spec_anyVector (Cl := n0) (Cm := b4) (Cn := 0) (Cp := []) (Cq := []) (Ey := a13) (Ez := c14) hx17
 refine st_call (cx_call hc18 (ent_f hc18.fn rfl) hn0 (H.sel' [1, 2, 0, 2, 3, 4] rfl rfl : Hp S0 σ0 _ ([_, _] ++ _))) wn ?_
 rintro _ σ23 ⟨_, ⟨a19, c20, a21, c22, rfl, rfl⟩, H, -⟩
 replace H : Hp _ _ _ [_, _, _, _, _, _, _] := H
 refine sa (Sl a19 r16.1 c20) rfl (w_end (q_then (c_seq (rg (sm (pt b4 0) rfl ?_)))))
 revert h; refine br fun r24 hx25 h => ?_
 have hc26 := c_spec_anyVector (Cl := n0) (Cm := b4) (Cn := 0) (Cp := []) (Cq := []) (Ey := a21) (Ez := c22) hx25
 refine st_call (cx_call hc26 (ent_f hc26.fn rfl) hn0 (H.sel' [1, 2, 0, 2, 3, 4, 5, 6] rfl rfl : Hp S0 σ0 _ ([_, _] ++ _))) wn ?_
 rintro _ σ31 ⟨_, ⟨a27, c28, a29, c30, rfl, rfl⟩, H, -⟩
 replace H : Hp _ _ _ [_, _, _, _, _, _, _, _, _] := H
 replace H : Hp S0 σ0 σ31 [Ch.own n0 n0 (Sl a27 r24.1 c28) r24.1, Ch.bx n0 b4 0 [(Sl a29 r24.2.1 c30), (I r24.2.2)] [] [], Ch.ro 0 (Sl a29 r24.2.1 c30) r24.2.1, Ch.own n0 n0 (Sl a19 r16.1 c20) r16.1, Ch.own n0 n0 (Sl a11 r8.1 c12) r8.1] := H.sel' [0, 1, 2, 3, 5] rfl rfl
 refine sa (Sl a27 r24.1 c28) rfl (w_end (q_then (c_seq (c_seq (rg (sa (I 0) rfl (w_end (q_then ?_))))))))
 obtain ⟨o32, hj, h'⟩ := bind_some h
 clear h
 refine c_cut (fun e a w => e = .normal ∧ ∃ (ρ : Nat → Value) (σ : St), a = fr 63 (updL ρ [(6, (Sl a11 r8.1 c12)), (7, (Sl a19 o32.1 c20)), (8, (Sl a27 o32.2 c28))]) ∧ w = σ.w ∧ Hp S0 σ0 σ [Ch.own n0 n0 (Sl a11 r8.1 c12) r8.1, Ch.own n0 n0 (Sl a19 o32.1 c20) o32.1, Ch.own n0 n0 (Sl a27 o32.2 c28) o32.2] ∧ o32.1.length = r16.1.length ∧ o32.2.length = r24.1.length) ?_ ?_
 ·clear h'
  rename _ = some o32 => h
  refine c_blk (wp_loopM _ h (fun s33 a w => ∃ (ρ : Nat → Value) (σ : St) (aj1 : Option Addr) (cj2 : Nat), a = fr 63 (updL ρ [(5, (pt b4 0)), (6, (Sl a11 r8.1 c12)), (7, (Sl a19 s33.2.1 c20)), (8, (Sl a27 s33.2.2.1 c28)), (9, (I s33.2.2.2))]) ∧ w = σ.w ∧ Hp S0 σ0 σ [Ch.bx n0 b4 0 [(Sl aj1 s33.1.1 cj2), (I s33.1.2)] [] [], Ch.ro 0 (Sl aj1 s33.1.1 cj2) s33.1.1, Ch.own n0 n0 (Sl a11 r8.1 c12) r8.1, Ch.own n0 n0 (Sl a19 s33.2.1 c20) s33.2.1, Ch.own n0 n0 (Sl a27 s33.2.2.1 c28) s33.2.2.1] ∧ s33.2.1.length = r16.1.length ∧ s33.2.2.1.length = r24.1.length) ⟨_, σ31, a29, c30, fr_join ⟨rfl, rfl, rfl, rfl, rfl, trivial⟩, rfl, H.sel' [1, 2, 4, 3, 0] rfl rfl, rfl, rfl⟩ ?_)
  clear h H
  rintro s33 a w o ⟨ρ, σ34, a35, c36, rfl, rfl, H, hn37, hn38⟩ h hres
  refine c_seq (c_seq ?_)
  obtain ⟨o39, hj, h'⟩ := bind_some h
  clear h
  refine c_cut (fun e a w => e = .normal ∧ ∃ (ρ : Nat → Value) (σ : St) (aj1 : Option Addr) (cj2 : Nat), a = fr 63 (updL ρ [(5, (pt b4 0)), (6, (Sl a11 r8.1 c12)), (7, (Sl a19 s33.2.1 c20)), (8, (Sl a27 s33.2.2.1 c28)), (9, (I s33.2.2.2)), (33, (B o39.2))]) ∧ w = σ.w ∧ Hp S0 σ0 σ [Ch.bx n0 b4 0 [(Sl aj1 o39.1.1 cj2), (I o39.1.2)] [] [], Ch.ro 0 (Sl aj1 o39.1.1 cj2) o39.1.1, Ch.own n0 n0 (Sl a11 r8.1 c12) r8.1, Ch.own n0 n0 (Sl a19 s33.2.1 c20) s33.2.1, Ch.own n0 n0 (Sl a27 s33.2.2.1 c28) s33.2.2.1]) ?_ ?_
  ·clear h'
   rename _ = some o39 => h
   refine rg (sm (I s33.2.2.2) rfl (sm (Sl a19 s33.2.1 c20) rfl (st (v := (I (s33.2.1.length : Int))) (rv_len Try.underlying24 rfl) (st (v := (B (decide (s33.2.2.2 < (s33.2.1.length : Int))))) (rv_lss (a := s33.2.2.2) (b := (s33.2.1.length : Int)) rfl rfl) (sm (B (decide (s33.2.2.2 < (s33.2.1.length : Int)))) rfl ?_)))))
   rcases Bool.eq_false_or_eq_true (decide (s33.2.2.2 < (s33.2.1.length : Int))) with hb40 | hb40
   ·replace h := bif_t hb40 h
    refine st_g (v := (I s33.2.2.2)) (congrArg some hb40) (rv_move rfl) (st_g (v := (Sl a27 s33.2.2.1 c28)) (congrArg some hb40) (rv_move rfl) (st_g (v := (I (s33.2.2.1.length : Int))) (congrArg some hb40) (rv_len Try.underlying24 rfl) (st_g (v := (B (decide (s33.2.2.2 < (s33.2.2.1.length : Int))))) (congrArg some hb40) (rv_lss (a := s33.2.2.2) (b := (s33.2.2.1.length : Int)) rfl rfl) (st (v := (B (decide (s33.2.2.2 < (s33.2.2.1.length : Int))))) (rv_pick_t (congrArg B hb40) rfl) (sm (B (decide (s33.2.2.2 < (s33.2.2.1.length : Int)))) rfl ?_)))))
    rcases Bool.eq_false_or_eq_true (decide (s33.2.2.2 < (s33.2.2.1.length : Int))) with hb41 | hb41
    ·replace h := bif_t hb41 h
     refine st_g (v := (pt b4 0)) (congrArg some hb41) (rv_move rfl) ?_
     revert h; refine br fun r42 hx43 h => ?_
     have hc44 := c_spec_reader_pick (Cl := n0) (Cm := b4) (Cn := 0) (Cp := []) (Cq := []) (Ey := a35) (Ez := c36) hx43
     refine st_call (cx_call hc44 (ent_f hc44.fn rfl) hn0 (H.sel' [0, 1, 1, 2, 3, 4] rfl rfl : Hp S0 σ0 _ ([_, _] ++ _))) (wanted_yes rfl (by exact (congrArg some hb41))) ?_
     rintro _ σ47 ⟨_, ⟨a45, c46, rfl, rfl⟩, H, -⟩
     replace H : Hp _ _ _ [_, _, _, _, _, _] := H
     refine st_g (v := (B (decide (0 < r42.1)))) (congrArg some hb41) (rv_gtr (a := r42.1) (b := 0) rfl rfl) (st (v := (B (decide (0 < r42.1)))) (rv_pick_t (congrArg B hb41) rfl) (w_end ?_))
     obtain rfl := sj h
     exact ⟨rfl, _, σ47, a45, c46, fr_join ⟨rfl, rfl, rfl, rfl, rfl, rfl, trivial⟩, rfl, H.sel' [0, 1, 3, 4, 5] rfl rfl⟩
    ·replace h := bif_f hb41 h
     refine st_skip (congrArg some hb41) (st_skip (congrArg some hb41) (st_skip (congrArg some hb41) (st (v := (B false)) (rv_pick_f (congrArg B hb41) rfl) (w_end ?_))))
     obtain rfl := sj h
     exact ⟨rfl, _, σ34, a35, c36, fr_join ⟨rfl, rfl, rfl, rfl, rfl, rfl, trivial⟩, rfl, H.sel' [0, 1, 2, 3, 4] rfl rfl⟩
   ·replace h := bif_f hb40 h
    refine st_skip (congrArg some hb40) (st_skip (congrArg some hb40) (st_skip (congrArg some hb40) (st_skip (congrArg some hb40) (st (v := (B false)) (rv_pick_f (congrArg B hb40) rfl) (sm (B false) rfl (st_skip rfl (st_skip rfl (st_skip rfl (st (v := (B false)) (rv_pick_f rfl rfl) (w_end ?_))))))))))
    obtain rfl := sj h
    exact ⟨rfl, _, σ34, a35, c36, fr_join ⟨rfl, rfl, rfl, rfl, rfl, rfl, trivial⟩, rfl, H.sel' [0, 1, 2, 3, 4] rfl rfl⟩
  ·clear hj
   have h := h'
   clear h' H
   rintro e a w ⟨rfl, ρ, σ48, a49, c50, rfl, rfl, H⟩
   refine q_then ?_
   refine cd_cond o39.2 rfl (fun hb51 => ?_) (fun hb51 => ?_)
   ·replace h := bif_t hb51 h
    refine c_skip (q_then (c_seq ?_))
    obtain ⟨o52, hj, h'⟩ := bind_some h
    clear h
    refine c_cut (fun e a w => e = .normal ∧ ∃ (ρ : Nat → Value) (σ : St), a = fr 63 (updL ρ [(5, (pt b4 0)), (6, (Sl a11 r8.1 c12)), (7, (Sl a19 o52.1 c20)), (8, (Sl a27 o52.2 c28)), (9, (I s33.2.2.2))]) ∧ w = σ.w ∧ Hp S0 σ0 σ [Ch.ro 0 (Sl a49 o39.1.1 c50) o39.1.1, Ch.bx n0 b4 0 [(Sl a49 o39.1.1 c50), (I o39.1.2)] [] [], Ch.own n0 n0 (Sl a11 r8.1 c12) r8.1, Ch.own n0 n0 (Sl a19 o52.1 c20) o52.1, Ch.own n0 n0 (Sl a27 o52.2 c28) o52.2] ∧ o52.1.length = s33.2.1.length ∧ o52.2.length = s33.2.2.1.length) ?_ ?_
    ·clear h'
     rename _ = some o52 => h
     refine c_blk (c_seq ?_)
     refine rgP (σ := σ48) 8 (by kernel_rfl) (by kernel_rfl) (by kernel_rfl) ?_
     refine sq (v := (Sl a19 s33.2.1 c20)) (rv_move rfl) (sq (v := (I s33.2.2.2)) (rv_move rfl) ?_)
     revert h; refine br fun x53 hx54 h => ?_
     obtain ⟨b56, o57, hi55, -⟩ := (H.own 3 rfl).ix hx54
     refine sq (v := (pt b56 o57)) (rv_ix Try.underlying24 ti3 rfl rfl hi55) ?_
     have hc58 := ((H.own 3 rfl).at hx54 hi55).int
     refine sq (v := (I x53)) (rv_load1 Try.underlying3 rfl rfl hc58) (sq (v := (Sl a27 s33.2.2.1 c28)) (rv_move rfl) (sq (v := (I s33.2.2.2)) (rv_move rfl) ?_))
     revert h; refine br fun x59 hx60 h => ?_
     obtain ⟨b62, o63, hi61, -⟩ := (H.own 4 rfl).ix hx60
     refine sq (v := (pt b62 o63)) (rv_ix Try.underlying24 ti3 rfl rfl hi61) ?_
     have hc64 := ((H.own 4 rfl).at hx60 hi61).int
     refine sq (v := (I x59)) (rv_load1 Try.underlying3 rfl rfl hc64) (sq_end ?_)
     intro σ65 hm66
     replace H := H.grow (hm66.mono fun _ h => h); clear hm66
     refine st (v := (B (decide (x59 < x53)))) (rv_gtr (a := x53) (b := x59) rfl rfl) (w_end (q_then ?_))
     refine cd_cond (decide (x59 < x53)) rfl (fun hb67 => ?_) (fun hb67 => ?_)
     ·replace h := bif_t hb67 h
      refine c_seq (rg (sm (Sl a19 s33.2.1 c20) rfl (sm (I s33.2.2.2) rfl ?_)))
      revert h; refine br fun x68 hx69 h => ?_
      obtain ⟨b71, o72, hi70, -⟩ := (H.own 3 rfl).ix hx69
      refine st (v := (pt b71 o72)) (rv_ix Try.underlying24 ti3 rfl rfl hi70) ?_
      have hc73 := ((H.own 3 rfl).at hx69 hi70).int
      refine st (v := (I x68)) (rv_load1 Try.underlying3 rfl rfl hc73) (sa (I x68) rfl (w_end (q_then (c_seq (rg (sm (Sl a19 s33.2.1 c20) rfl (sm (I s33.2.2.2) rfl (sm (Sl a27 s33.2.2.1 c28) rfl (sm (I s33.2.2.2) rfl ?_)))))))))
      revert h; refine br fun x74 hx75 h => ?_
      obtain ⟨b77, o78, hi76, -⟩ := (H.own 4 rfl).ix hx75
      refine st (v := (pt b77 o78)) (rv_ix Try.underlying24 ti3 rfl rfl hi76) ?_
      have hc79 := ((H.own 4 rfl).at hx75 hi76).int
      refine st (v := (I x74)) (rv_load1 Try.underlying3 rfl rfl hc79) ?_
      revert h; refine br fun x80 hx81 h => ?_
      obtain ⟨b83, o84, hi82, -⟩ := (H.own 3 rfl).ix hx81
      refine st (v := (pt b83 o84)) (rv_ix Try.underlying24 ti3 rfl rfl hi82) ?_
      refine st_exS (ex_store_own (e' := x74) (vs := [(I x74)]) (k := 0) H (i := 3) rfl ti3 hx81 hi82 rfl rfl rfl rfl rfl (Nat.le_of_ble_eq_true rfl) (by simp [plain]) (by rintro _ rfl; exact rfl)) wn ?_
      rintro σ85 ⟨H, -⟩
      have hsl : (Sl a19 s33.2.1 c20) = (Sl a19 (s33.2.1.set s33.2.2.2.toNat x74) c20) := sl_len List.length_set.symm
      rw [hsl]; rw [hsl] at H; clear hsl
      refine w_end (q_then (rg (sm (Sl a27 s33.2.2.1 c28) rfl (sm (I s33.2.2.2) rfl (sm (I x68) rfl ?_)))))
      revert h; refine br fun x86 hx87 h => ?_
      obtain ⟨b89, o90, hi88, -⟩ := (H.own 4 rfl).ix hx87
      refine st (v := (pt b89 o90)) (rv_ix Try.underlying24 ti3 rfl rfl hi88) ?_
      refine st_exS (ex_store_own (e' := x68) (vs := [(I x68)]) (k := 0) H (i := 4) rfl ti3 hx87 hi88 rfl rfl rfl rfl rfl (Nat.le_of_ble_eq_true rfl) (by simp [plain]) (by rintro _ rfl; exact rfl)) wn ?_
      rintro σ91 ⟨H, -⟩
      have hsl : (Sl a27 s33.2.2.1 c28) = (Sl a27 (s33.2.2.1.set s33.2.2.2.toNat x68) c28) := sl_len List.length_set.symm
      rw [hsl]; rw [hsl] at H; clear hsl
      refine w_end (q_blk ?_)
      obtain rfl := sj h
      exact ⟨rfl, _, σ91, fr_join ⟨rfl, rfl, rfl, rfl, rfl, trivial⟩, rfl, H.sel' [3, 2, 4, 1, 0] rfl rfl, ((List.length_set.trans hn37).trans hn37.symm), ((List.length_set.trans hn38).trans hn38.symm)⟩
     ·replace h := bif_f hb67 h
      refine c_skip (q_blk ?_)
      obtain rfl := sj h
      exact ⟨rfl, _, σ65, fr_join ⟨rfl, rfl, rfl, rfl, rfl, trivial⟩, rfl, H.sel' [1, 0, 2, 3, 4] rfl rfl, rfl, rfl⟩
    ·clear hj
     have h := h'
     clear h' H
     rintro e a w ⟨rfl, ρ, σ92, rfl, rfl, H, hn93, hn94⟩
     refine q_then (rg (sm (I s33.2.2.2) rfl (st (v := (I (w64 (s33.2.2.2 + 1)))) (rv_add (a := s33.2.2.2) (b := 1) rfl rfl) (sa (I (w64 (s33.2.2.2 + 1))) rfl (w_end (q_then ?_))))))
     obtain rfl := sj h
     exact ⟨_, rfl, _, σ92, a49, c50, fr_join ⟨rfl, rfl, rfl, rfl, rfl, trivial⟩, rfl, H.sel' [1, 0, 2, 3, 4] rfl rfl, (hn93.trans hn37), (hn94.trans hn38)⟩
   ·replace h := bif_f hb51 h
    refine c_exit (q_then_x (q_then_x (q_blk_hit ?_)))
    obtain rfl := sj h
    obtain rfl := hres _ rfl
    exact ⟨rfl, _, σ48, fr_join ⟨rfl, rfl, rfl, trivial⟩, rfl, H.sel' [2, 3, 4] rfl rfl, hn37, hn38⟩
 ·clear hj
  have h := h'
  clear h' H
  rintro e a w ⟨rfl, ρ, σ95, rfl, rfl, H, hn96, hn97⟩
  refine q_then (c_seq (rg (sm (Sl a11 r8.1 c12) rfl (sm (Sl a19 o32.1 c20) rfl (sm (Sl a27 o32.2 c28) rfl (sa (Sl a11 r8.1 c12) rfl (sa (Sl a19 o32.1 c20) rfl (sa (Sl a27 o32.2 c28) rfl (w_end (q_then (c_ret ?_)))))))))))
  obtain rfl := sj h
  exact fin_ret (v := (.tuple #[(Sl a11 r8.1 c12), (Sl a19 o32.1 c20), (Sl a27 o32.2 c28)])) (results_ok Try.results35 (res_tmp (v := (Sl a11 r8.1 c12)) rfl (res_tmp (v := (Sl a19 o32.1 c20)) rfl (res_tmp (v := (Sl a27 o32.2 c28)) rfl res_nil))) rfl) ⟨a11, c12, a19, c20, a27, c28, rfl, rfl⟩ (H.sel' [0, 1, 2] rfl rfl)

theorem c_laws_equalInts {Bh : List Int} {Bi : List Int} {Ff : Option Addr} {Fg : Nat} {Fh : Option Addr} {Fi : Nat} {r : Bool} (h : M.laws_equalInts Bh Bi = some r) :
    Cal2 Try.prog 36 [(Sl Ff Bh Fg), (Sl Fh Bi Fi)] [Ch.ro 0 (Sl Ff Bh Fg) Bh, Ch.ro 0 (Sl Fh Bi Fi) Bi] (fun n0 v L => v = (B r) ∧ L = []) := by
 refine cal2 (n := 26) Try.func36 rfl rfl rfl rfl ?_
 intro S0 σ0 n0 hn0 H
 unfold M.laws_equalInts at h
 refine c_seq (rg (sa (B false) rfl (w_end (q_then (c_seq (c_seq (rg (sm (Sl Ff Bh Fg) rfl (st (v := (I (Bh.length : Int))) (rv_len Try.underlying24 rfl) (sm (Sl Fh Bi Fi) rfl (st (v := (I (Bi.length : Int))) (rv_len Try.underlying24 rfl) ?_)))))))))))
 refine st (v := (B ((Bh.length : Int) != (Bi.length : Int)))) (rv_neq (a := (Bh.length : Int)) (b := (Bi.length : Int)) rfl rfl) (w_end (q_then ?_))
 refine cd_cond ((Bh.length : Int) != (Bi.length : Int)) rfl (fun hb1 => ?_) (fun hb1 => ?_)
 ·replace h := bif_t hb1 h
  refine c_seq (rg (sa (B false) rfl (w_end (q_then (c_ret (q_then_r ?_))))))
  obtain rfl := sj h
  exact fin_ret (v := (B false)) (results_ok Try.results36 (res_tmp (v := (B false)) rfl res_nil) rfl) ⟨rfl, rfl⟩ (H.sel' [] rfl rfl)
 ·replace h := bif_f hb1 h
  refine c_skip (q_then (c_seq (c_seq (rg (sa (I 0) rfl (w_end (q_then ?_)))))))
  obtain ⟨o2, hj, h'⟩ := bind_some h
  clear h
  refine c_cut (fun e a w => (∃ t, o2 = (.inl t) ∧ e = .normal ∧ ∃ (ρ : Nat → Value) (σ : St), a = fr 26 (updL ρ []) ∧ w = σ.w ∧ Hp S0 σ0 σ []) ∨ (∃ t, o2 = (.inr t) ∧ e = .ret ∧ ∃ (ρ : Nat → Value) (σ : St), a = fr 26 (updL ρ [(4, (B t))]) ∧ w = σ.w ∧ Hp S0 σ0 σ [])) ?_ ?_
  ·clear h'
   rename _ = some o2 => h
   refine c_blk (wp_loopM _ h (fun s3 a w => ∃ (ρ : Nat → Value) (σ : St), a = fr 26 (updL ρ [(0, (Sl Ff Bh Fg)), (1, (Sl Fh Bi Fi)), (5, (I s3))]) ∧ w = σ.w ∧ Hp S0 σ0 σ [Ch.ro 0 (Sl Ff Bh Fg) Bh, Ch.ro 0 (Sl Fh Bi Fi) Bi]) ⟨_, σ0, fr_join ⟨rfl, rfl, rfl, trivial⟩, rfl, H.sel' [0, 1] rfl rfl⟩ ?_)
   clear h H
   rintro s3 a w o ⟨ρ, σ4, rfl, rfl, H⟩ h hres
   refine c_seq (c_seq (rg (sm (I s3) rfl (sm (Sl Ff Bh Fg) rfl (st (v := (I (Bh.length : Int))) (rv_len Try.underlying24 rfl) (st (v := (B (decide (s3 < (Bh.length : Int))))) (rv_lss (a := s3) (b := (Bh.length : Int)) rfl rfl) (w_end (q_then ?_))))))))
   refine cd_cond (decide (s3 < (Bh.length : Int))) rfl (fun hb5 => ?_) (fun hb5 => ?_)
   ·replace h := bif_t hb5 h
    refine c_skip (q_then (c_seq (c_blk (c_seq ?_))))
    refine rgP (σ := σ4) 8 (by kernel_rfl) (by kernel_rfl) (by kernel_rfl) ?_
    refine sq (v := (Sl Ff Bh Fg)) (rv_move rfl) (sq (v := (I s3)) (rv_move rfl) ?_)
    revert h; refine br fun x6 hx7 h => ?_
    obtain ⟨b9, o10, hi8, -⟩ := (H.ro 0 rfl).ix hx7
    refine sq (v := (pt b9 o10)) (rv_ix Try.underlying24 ti3 rfl rfl hi8) ?_
    have hc11 := ((H.ro 0 rfl).at hx7 hi8).int
    refine sq (v := (I x6)) (rv_load1 Try.underlying3 rfl rfl hc11) (sq (v := (Sl Fh Bi Fi)) (rv_move rfl) (sq (v := (I s3)) (rv_move rfl) ?_))
    revert h; refine br fun x12 hx13 h => ?_
    obtain ⟨b15, o16, hi14, -⟩ := (H.ro 1 rfl).ix hx13
    refine sq (v := (pt b15 o16)) (rv_ix Try.underlying24 ti3 rfl rfl hi14) ?_
    have hc17 := ((H.ro 1 rfl).at hx13 hi14).int
    refine sq (v := (I x12)) (rv_load1 Try.underlying3 rfl rfl hc17) (sq_end ?_)
    intro σ18 hm19
    replace H := H.grow (hm19.mono fun _ h => h); clear hm19
    refine st (v := (B (x6 != x12))) (rv_neq (a := x6) (b := x12) rfl rfl) (w_end (q_then ?_))
    refine cd_cond (x6 != x12) rfl (fun hb20 => ?_) (fun hb20 => ?_)
    ·replace h := bif_t hb20 h
     refine c_seq (rg (sa (B false) rfl (w_end (q_then (c_ret (q_blk_r (q_then_r (q_then_r (q_blk_r ?_)))))))))
     obtain rfl := sj h
     obtain rfl := hres _ rfl
     exact .inr (⟨_, rfl, rfl, _, σ18, fr_join ⟨rfl, trivial⟩, rfl, H.sel' [] rfl rfl⟩)
    ·replace h := bif_f hb20 h
     refine c_skip (q_blk (q_then (rg (sm (I s3) rfl (st (v := (I (w64 (s3 + 1)))) (rv_add (a := s3) (b := 1) rfl rfl) (sa (I (w64 (s3 + 1))) rfl (w_end (q_then ?_))))))))
     obtain rfl := sj h
     exact ⟨_, rfl, _, σ18, fr_join ⟨rfl, rfl, rfl, trivial⟩, rfl, H.sel' [0, 1] rfl rfl⟩
   ·replace h := bif_f hb5 h
    refine c_exit (q_then_x (q_then_x (q_blk_hit ?_)))
    obtain rfl := sj h
    obtain rfl := hres _ rfl
    exact .inl ⟨_, rfl, rfl, _, σ4, fr_join trivial, rfl, H.sel' [] rfl rfl⟩
  ·clear hj
   have h := h'
   clear h' H
   rintro e a w (⟨t21, rfl, rfl, ρ, σ22, rfl, rfl, H⟩ | ⟨t23, rfl, rfl, ρ, σ24, rfl, rfl, H⟩)
   ·replace h := selim_l h
    refine q_then (c_seq (rg (sa (B true) rfl (w_end (q_then (c_ret ?_))))))
    obtain rfl := sj h
    exact fin_ret (v := (B true)) (results_ok Try.results36 (res_tmp (v := (B true)) rfl res_nil) rfl) ⟨rfl, rfl⟩ (H.sel' [] rfl rfl)
   ·replace h := selim_r h
    refine q_then_r ?_
    obtain rfl := sj h
    exact fin_ret (v := (B t23)) (results_ok Try.results36 (res_tmp (v := (B t23)) rfl res_nil) rfl) ⟨rfl, rfl⟩ (H.sel' [] rfl rfl)

theorem c_spec_InBox {Ai : List (Int × (List Int) × Int)} {Ek : List Int} {El : List Int} {Aj : Option Addr} {Ak : Nat} {Eo : Option Addr} {Ep : Nat} {Er : Option Addr} {Es : Nat} {r : (List Int)} (h : M.spec_InBox Ai Ek El = some r) :
    Cal2 Try.prog 37 [(Sl Aj Ai Ak), (Sl Eo Ek Ep), (Sl Er El Es)] [Ch.ro 0 (Sl Aj Ai Ak) Ai, Ch.ro 0 (Sl Eo Ek Ep) Ek, Ch.ro 0 (Sl Er El Es) El] (fun n0 v L => ∃ (az1 : Option Addr), ∃ (cz2 : Nat), v = (Sl az1 r cz2) ∧ L = [Ch.own n0 n0 (Sl az1 r cz2) r]) := by
 refine cal2 (n := 65) Try.func37 rfl rfl rfl rfl ?_
 intro S0 σ0 n0 hn0 H
 unfold M.spec_InBox at h
 refine c_seq (rg (sa (.slice none 0 0) rfl (w_end (q_then (c_seq (rg ?_))))))
 refine st_ex (ex_buildSlice (el := n0) (xs := ([] : List Int)) (ps := []) (cs := []) H hn0 Try.underlying24 ti3 rfl rfl (by kernel_rfl) (.nil) rfl) wn ?_
 rintro _ σ2 ⟨b1, rfl, H, -⟩
 refine sa (Sl (some ⟨b1, 0, none⟩) ([] : List Int) 0) rfl (w_end (q_then (c_seq (c_seq ?_))))
 obtain ⟨o3, hj, h'⟩ := bind_some h
 clear h
 refine c_cut (fun e a w => e = .normal ∧ ∃ (ρ : Nat → Value) (σ : St), a = fr 65 (updL ρ [(0, (Sl Aj Ai Ak)), (1, (Sl Eo Ek Ep)), (2, (Sl Er El Es)), (7, (Sl (some ⟨b1, 0, none⟩) ([] : List Int) 0)), (24, (B o3))]) ∧ w = σ.w ∧ Hp S0 σ0 σ [Ch.ro 0 (Sl Aj Ai Ak) Ai, Ch.ro 0 (Sl Eo Ek Ep) Ek, Ch.ro 0 (Sl Er El Es) El, Ch.own n0 n0 (Sl (some ⟨b1, 0, none⟩) ([] : List Int) 0) ([] : List Int)]) ?_ ?_
 ·clear h'
  rename _ = some o3 => h
  refine rg (sm (Sl Aj Ai Ak) rfl ?_)
  revert h; refine br fun r4 hx5 h => ?_
  have hc6 := c_spec_validStore (Aj := Aj) (Ak := Ak) hx5
  refine st_call (cx_call hc6 (ent_f hc6.fn rfl) hn0 (H.sel' [1, 0, 1, 2, 3] rfl rfl : Hp S0 σ0 _ ([_] ++ _))) wn ?_
  rintro _ σ7 ⟨_, ⟨rfl, rfl⟩, H, -⟩
  replace H : Hp _ _ _ [_, _, _, _] := H
  refine st (v := (B (!r4))) (rv_not rfl) (sm (B (!r4)) rfl ?_)
  rcases Bool.eq_false_or_eq_true (!r4) with hb8 | hb8
  ·replace h := bif_t hb8 h
   refine st_skip (congrArg some hb8) (st_skip (congrArg some hb8) (st_skip (congrArg some hb8) (st (v := (B true)) (rv_pick_t (congrArg B hb8) rfl) (sm (B true) rfl (st_skip rfl (st_skip rfl (st_skip rfl (st (v := (B true)) (rv_pick_t rfl rfl) (w_end ?_)))))))))
   obtain rfl := sj h
   exact ⟨rfl, _, σ7, fr_join ⟨rfl, rfl, rfl, rfl, rfl, trivial⟩, rfl, H.sel' [1, 2, 3, 0] rfl rfl⟩
  ·replace h := bif_f hb8 h
   refine st_g (v := (Sl Eo Ek Ep)) (congrArg some hb8) (rv_move rfl) ?_
   revert h; refine br fun r9 hx10 h => ?_
   have hc11 := c_spec_isVector (Ac := Eo) (Ad := Ep) hx10
   refine st_call (cx_call hc11 (ent_f hc11.fn rfl) hn0 (H.sel' [2, 0, 1, 2, 3] rfl rfl : Hp S0 σ0 _ ([_] ++ _))) (wanted_yes rfl (by exact (congrArg some hb8))) ?_
   rintro _ σ12 ⟨_, ⟨rfl, rfl⟩, H, -⟩
   replace H : Hp _ _ _ [_, _, _, _] := H
   refine st_g (v := (B (!r9))) (congrArg some hb8) (rv_not rfl) (st (v := (B (!r9))) (rv_pick_f (congrArg B hb8) rfl) (sm (B (!r9)) rfl ?_))
   rcases Bool.eq_false_or_eq_true (!r9) with hb13 | hb13
   ·replace h := bif_t hb13 h
    refine st_skip (congrArg some hb13) (st_skip (congrArg some hb13) (st_skip (congrArg some hb13) (st (v := (B true)) (rv_pick_t (congrArg B hb13) rfl) (w_end ?_))))
    obtain rfl := sj h
    exact ⟨rfl, _, σ12, fr_join ⟨rfl, rfl, rfl, rfl, rfl, trivial⟩, rfl, H.sel' [1, 2, 3, 0] rfl rfl⟩
   ·replace h := bif_f hb13 h
    refine st_g (v := (Sl Er El Es)) (congrArg some hb13) (rv_move rfl) ?_
    revert h; refine br fun r14 hx15 h => ?_
    have hc16 := c_spec_isVector (Ac := Er) (Ad := Es) hx15
    refine st_call (cx_call hc16 (ent_f hc16.fn rfl) hn0 (H.sel' [3, 0, 1, 2, 3] rfl rfl : Hp S0 σ0 _ ([_] ++ _))) (wanted_yes rfl (by exact (congrArg some hb13))) ?_
    rintro _ σ17 ⟨_, ⟨rfl, rfl⟩, H, -⟩
    replace H : Hp _ _ _ [_, _, _, _] := H
    refine st_g (v := (B (!r14))) (congrArg some hb13) (rv_not rfl) (st (v := (B (!r14))) (rv_pick_f (congrArg B hb13) rfl) (w_end ?_))
    obtain rfl := sj h
    exact ⟨rfl, _, σ17, fr_join ⟨rfl, rfl, rfl, rfl, rfl, trivial⟩, rfl, H.sel' [1, 2, 3, 0] rfl rfl⟩
 ·clear hj
  have h := h'
  clear h' H
  rintro e a w ⟨rfl, ρ, σ18, rfl, rfl, H⟩
  refine q_then ?_
  refine cd_cond o3 rfl (fun hb19 => ?_) (fun hb19 => ?_)
  ·replace h := bif_t hb19 h
   refine c_seq (rg (sa (.slice none 0 0) rfl (w_end (q_then (c_ret (q_then_r ?_))))))
   replace H := H.nilOwn Int n0 n0
   obtain rfl := sj h
   exact fin_ret (v := (.slice none 0 0)) (results_ok Try.results37 (res_tmp (v := (.slice none 0 0)) rfl res_nil) rfl) ⟨none, 0, rfl, rfl⟩ (H.sel' [0] rfl rfl)
  ·replace h := bif_f hb19 h
   refine c_skip (q_then (c_seq (c_seq (rg (sa (I 0) rfl (w_end (q_then ?_)))))))
   obtain ⟨o20, hj, h'⟩ := bind_some h
   clear h
   refine c_cut (fun e a w => e = .normal ∧ ∃ (ρ : Nat → Value) (σ : St) (aj1 : Option Addr) (cj2 : Nat), a = fr 65 (updL ρ [(7, (Sl aj1 o20 cj2))]) ∧ w = σ.w ∧ Hp S0 σ0 σ [Ch.own n0 n0 (Sl aj1 o20 cj2) o20]) ?_ ?_
   ·clear h'
    rename _ = some o20 => h
    refine c_blk (wp_loopM _ h (fun s21 a w => ∃ (ρ : Nat → Value) (σ : St) (aj1 : Option Addr) (cj2 : Nat), a = fr 65 (updL ρ [(0, (Sl Aj Ai Ak)), (1, (Sl Eo Ek Ep)), (2, (Sl Er El Es)), (7, (Sl aj1 s21.1 cj2)), (8, (I s21.2))]) ∧ w = σ.w ∧ Hp S0 σ0 σ [Ch.ro 0 (Sl Aj Ai Ak) Ai, Ch.ro 0 (Sl Eo Ek Ep) Ek, Ch.ro 0 (Sl Er El Es) El, Ch.own n0 n0 (Sl aj1 s21.1 cj2) s21.1]) ⟨_, σ18, (some ⟨b1, 0, none⟩), 0, fr_join ⟨rfl, rfl, rfl, rfl, rfl, trivial⟩, rfl, H.sel' [0, 1, 2, 3] rfl rfl⟩ ?_)
    clear h H
    rintro s21 a w o ⟨ρ, σ22, a23, c24, rfl, rfl, H⟩ h hres
    refine c_seq (c_seq (rg (sm (I s21.2) rfl (sm (Sl Aj Ai Ak) rfl (st (v := (I (Ai.length : Int))) (rv_len Try.underlying23 rfl) (st (v := (B (decide (s21.2 < (Ai.length : Int))))) (rv_lss (a := s21.2) (b := (Ai.length : Int)) rfl rfl) (w_end (q_then ?_))))))))
    refine cd_cond (decide (s21.2 < (Ai.length : Int))) rfl (fun hb25 => ?_) (fun hb25 => ?_)
    ·replace h := bif_t hb25 h
     refine c_skip (q_then (c_seq ?_))
     obtain ⟨o26, hj, h'⟩ := bind_some h
     clear h
     refine c_cut (fun e a w => e = .normal ∧ ∃ (ρ : Nat → Value) (σ : St) (aj1 : Option Addr) (cj2 : Nat), a = fr 65 (updL ρ [(0, (Sl Aj Ai Ak)), (1, (Sl Eo Ek Ep)), (2, (Sl Er El Es)), (7, (Sl aj1 o26 cj2)), (8, (I s21.2))]) ∧ w = σ.w ∧ Hp S0 σ0 σ [Ch.ro 0 (Sl Aj Ai Ak) Ai, Ch.ro 0 (Sl Eo Ek Ep) Ek, Ch.ro 0 (Sl Er El Es) El, Ch.own n0 n0 (Sl aj1 o26 cj2) o26]) ?_ ?_
     ·clear h'
      rename _ = some o26 => h
      refine c_blk (c_seq (rg (sa (B true) rfl (w_end (q_then (c_seq (c_seq (rg (sa (I 0) rfl (w_end (q_then ?_)))))))))))
      obtain ⟨o27, hj, h'⟩ := bind_some h
      clear h
      refine c_cut (fun e a w => e = .normal ∧ ∃ (ρ : Nat → Value) (σ : St), a = fr 65 (updL ρ [(0, (Sl Aj Ai Ak)), (1, (Sl Eo Ek Ep)), (2, (Sl Er El Es)), (7, (Sl a23 s21.1 c24)), (8, (I s21.2)), (9, (B o27))]) ∧ w = σ.w ∧ Hp S0 σ0 σ [Ch.ro 0 (Sl Aj Ai Ak) Ai, Ch.ro 0 (Sl Eo Ek Ep) Ek, Ch.ro 0 (Sl Er El Es) El, Ch.own n0 n0 (Sl a23 s21.1 c24) s21.1]) ?_ ?_
      ·clear h'
       rename _ = some o27 => h
       refine c_blk (wp_loopM _ h (fun s28 a w => ∃ (ρ : Nat → Value) (σ : St), a = fr 65 (updL ρ [(0, (Sl Aj Ai Ak)), (1, (Sl Eo Ek Ep)), (2, (Sl Er El Es)), (7, (Sl a23 s21.1 c24)), (8, (I s21.2)), (9, (B s28.1)), (10, (I s28.2))]) ∧ w = σ.w ∧ Hp S0 σ0 σ [Ch.ro 0 (Sl Aj Ai Ak) Ai, Ch.ro 0 (Sl Eo Ek Ep) Ek, Ch.ro 0 (Sl Er El Es) El, Ch.own n0 n0 (Sl a23 s21.1 c24) s21.1]) ⟨_, σ22, fr_join ⟨rfl, rfl, rfl, rfl, rfl, rfl, rfl, trivial⟩, rfl, H.sel' [0, 1, 2, 3] rfl rfl⟩ ?_)
       clear h H
       rintro s28 a w o ⟨ρ, σ29, rfl, rfl, H⟩ h hres
       refine c_seq (c_seq (rg (sm (I s28.2) rfl (st (v := (B (decide (s28.2 < 4)))) (rv_lss (a := s28.2) (b := 4) rfl rfl) (w_end (q_then ?_))))))
       refine cd_cond (decide (s28.2 < 4)) rfl (fun hb30 => ?_) (fun hb30 => ?_)
       ·replace h := bif_t hb30 h
        refine c_skip (q_then (c_seq (c_blk ?_)))
        obtain ⟨o31, hj, h'⟩ := bind_some h
        clear h
        refine c_cut (fun e a w => e = .normal ∧ ∃ (ρ : Nat → Value) (σ : St), a = fr 65 (updL ρ [(0, (Sl Aj Ai Ak)), (1, (Sl Eo Ek Ep)), (2, (Sl Er El Es)), (7, (Sl a23 s21.1 c24)), (8, (I s21.2)), (9, (B o31)), (10, (I s28.2))]) ∧ w = σ.w ∧ Hp S0 σ0 σ [Ch.ro 0 (Sl Aj Ai Ak) Ai, Ch.ro 0 (Sl Eo Ek Ep) Ek, Ch.ro 0 (Sl Er El Es) El, Ch.own n0 n0 (Sl a23 s21.1 c24) s21.1]) ?_ ?_
        ·clear h'
         rename _ = some o31 => h
         refine rgP (σ := σ29) 18 (by kernel_rfl) (by kernel_rfl) (by kernel_rfl) ?_
         refine sq (v := (B s28.1)) (rv_move rfl) (sq (v := (B s28.1)) (rv_move rfl) ?_)
         rcases Bool.eq_false_or_eq_true s28.1 with hb32 | hb32
         ·replace h := bif_t hb32 h
          refine sq_g (v := (Sl Aj Ai Ak)) (congrArg some hb32) (rv_move rfl) (sq_g (v := (I s21.2)) (congrArg some hb32) (rv_move rfl) ?_)
          revert h; refine br fun x33 hx34 h => ?_
          obtain ⟨b36, o37, hi35, -⟩ := (H.ro 0 rfl).ix hx34
          refine sq_g (v := (pt b36 o37)) (congrArg some hb32) (rv_ix Try.underlying23 ti31 rfl rfl hi35) (sq_g (v := (pt b36 (o37 + 1))) (congrArg some hb32) (rv_fieldAddr (off := 1) (ft := 24) Try.underlying31 rfl ti24 rfl rfl) ?_)
          obtain ⟨v41, hc42, hR40⟩ := ((H.ro 0 rfl).at hx34 hi35).snd.fst.slice
          obtain ⟨a38, c39, rfl⟩ := hR40.isSl
          replace H := H.add (d := Ch.ro 0 (Sl a38 x33.2.1 c39) x33.2.1) hR40 (fun _ h => h)
          clear hR40
          refine sq_g (v := (Sl a38 x33.2.1 c39)) (congrArg some hb32) (rv_load1 Try.underlying24 rfl rfl hc42) (sq_g (v := (I s28.2)) (congrArg some hb32) (rv_move rfl) ?_)
          revert h; refine br fun x43 hx44 h => ?_
          obtain ⟨b46, o47, hi45, -⟩ := (H.ro 0 rfl).ix hx44
          refine sq_g (v := (pt b46 o47)) (congrArg some hb32) (rv_ix Try.underlying24 ti3 rfl rfl hi45) ?_
          have hc48 := ((H.ro 0 rfl).at hx44 hi45).int
          refine sq_g (v := (I x43)) (congrArg some hb32) (rv_load1 Try.underlying3 rfl rfl hc48) (sq_g (v := (Sl Eo Ek Ep)) (congrArg some hb32) (rv_move rfl) (sq_g (v := (I s28.2)) (congrArg some hb32) (rv_move rfl) ?_))
          revert h; refine br fun x49 hx50 h => ?_
          obtain ⟨b52, o53, hi51, -⟩ := (H.ro 2 rfl).ix hx50
          refine sq_g (v := (pt b52 o53)) (congrArg some hb32) (rv_ix Try.underlying24 ti3 rfl rfl hi51) ?_
          have hc54 := ((H.ro 2 rfl).at hx50 hi51).int
          refine sq_g (v := (I x49)) (congrArg some hb32) (rv_load1 Try.underlying3 rfl rfl hc54) (sq_g (v := (Sl Er El Es)) (congrArg some hb32) (rv_move rfl) (sq_g (v := (I s28.2)) (congrArg some hb32) (rv_move rfl) ?_))
          revert h; refine br fun x55 hx56 h => ?_
          obtain ⟨b58, o59, hi57, -⟩ := (H.ro 3 rfl).ix hx56
          refine sq_g (v := (pt b58 o59)) (congrArg some hb32) (rv_ix Try.underlying24 ti3 rfl rfl hi57) ?_
          have hc60 := ((H.ro 3 rfl).at hx56 hi57).int
          refine sq_g (v := (I x55)) (congrArg some hb32) (rv_load1 Try.underlying3 rfl rfl hc60) (sq_end ?_)
          intro σ61 hm62
          replace H := H.grow (hm62.mono fun _ h => h); clear hm62
          revert h; refine br fun r63 hx64 h => ?_
          have hc65 := c_spec_inRange hx64
          refine st_call (cx_call hc65 (ent_f hc65.fn rfl) hn0 (H.sel' [0, 1, 2, 3, 4] rfl rfl : Hp S0 σ0 _ ([] ++ _))) (wanted_yes rfl (by exact (congrArg some hb32))) ?_
          rintro _ σ66 ⟨_, ⟨rfl, rfl⟩, H, -⟩
          replace H : Hp _ _ _ [_, _, _, _, _] := H
          refine st (v := (B r63)) (rv_pick_t (congrArg B hb32) rfl) (sa (B r63) rfl (w_end ?_))
          obtain rfl := sj h
          exact ⟨rfl, _, σ66, fr_join ⟨rfl, rfl, rfl, rfl, rfl, rfl, rfl, trivial⟩, rfl, H.sel' [1, 2, 3, 4] rfl rfl⟩
         ·replace h := bif_f hb32 h
          refine sq_skip (congrArg some hb32) (sq_skip (congrArg some hb32) (sq_skip (congrArg some hb32) (sq_skip (congrArg some hb32) (sq_skip (congrArg some hb32) (sq_skip (congrArg some hb32) (sq_skip (congrArg some hb32) (sq_skip (congrArg some hb32) (sq_skip (congrArg some hb32) (sq_skip (congrArg some hb32) (sq_skip (congrArg some hb32) (sq_skip (congrArg some hb32) ?_)))))))))))
          refine sq_skip (congrArg some hb32) (sq_skip (congrArg some hb32) (sq_skip (congrArg some hb32) (sq_skip (congrArg some hb32) (sq_end ?_))))
          intro σ67 hm68
          replace H := H.grow (hm68.mono fun _ h => h); clear hm68
          refine st_skip (congrArg some hb32) (st (v := (B false)) (rv_pick_f (congrArg B hb32) rfl) (sa (B false) rfl (w_end ?_)))
          obtain rfl := sj h
          exact ⟨rfl, _, σ67, fr_join ⟨rfl, rfl, rfl, rfl, rfl, rfl, rfl, trivial⟩, rfl, H.sel' [0, 1, 2, 3] rfl rfl⟩
        ·clear hj
         have h := h'
         clear h' H
         rintro e a w ⟨rfl, ρ, σ69, rfl, rfl, H⟩
         refine q_blk (q_then (rg (sm (I s28.2) rfl (st (v := (I (w64 (s28.2 + 1)))) (rv_add (a := s28.2) (b := 1) rfl rfl) (sa (I (w64 (s28.2 + 1))) rfl (w_end (q_then ?_)))))))
         obtain rfl := sj h
         exact ⟨_, rfl, _, σ69, fr_join ⟨rfl, rfl, rfl, rfl, rfl, rfl, rfl, trivial⟩, rfl, H.sel' [0, 1, 2, 3] rfl rfl⟩
       ·replace h := bif_f hb30 h
        refine c_exit (q_then_x (q_then_x (q_blk_hit ?_)))
        obtain rfl := sj h
        obtain rfl := hres _ rfl
        exact ⟨rfl, _, σ29, fr_join ⟨rfl, rfl, rfl, rfl, rfl, rfl, trivial⟩, rfl, H.sel' [0, 1, 2, 3] rfl rfl⟩
      ·clear hj
       have h := h'
       clear h' H
       rintro e a w ⟨rfl, ρ, σ70, rfl, rfl, H⟩
       refine q_then (c_seq (rg (sm (B o27) rfl (w_end (q_then ?_)))))
       refine cd_cond o27 rfl (fun hb71 => ?_) (fun hb71 => ?_)
       ·replace h := bif_t hb71 h
        refine rg (sm (Sl a23 s21.1 c24) rfl (sm (Sl Aj Ai Ak) rfl (sm (I s21.2) rfl ?_)))
        revert h; refine br fun x72 hx73 h => ?_
        obtain ⟨b75, o76, hi74, -⟩ := (H.ro 0 rfl).ix hx73
        refine st (v := (pt b75 o76)) (rv_ix Try.underlying23 ti31 rfl rfl hi74) (st (v := (pt b75 (o76 + 0))) (rv_fieldAddr (off := 0) (ft := 3) Try.underlying31 rfl ti3 rfl rfl) ?_)
        have hc77 := ((H.ro 0 rfl).at hx73 hi74).fst.int
        refine st (v := (I x72.1)) (rv_load1 Try.underlying3 rfl rfl hc77) ?_
        refine st_ex (ex_buildSlice (el := n0) (xs := ([x72.1] : List Int)) (ps := [(0, (I x72.1))]) (cs := [(I x72.1)]) H hn0 Try.underlying24 ti3 rfl rfl (by kernel_rfl) (.cons (c := [(I x72.1)]) rfl (.nil)) rfl) wn ?_
        rintro _ σ79 ⟨b78, rfl, H, -⟩
        revert h; refine br fun xs80 hx81 h => ?_
        refine st_ex (ex_append H (i := 4) rfl Try.underlying24 Try.underlying24 ti3 rfl rfl (by decide) (H.own 0 rfl).rd hx81 hn0 rfl rfl) wn ?_
        rintro _ σ84 ⟨a82, c83, rfl, H, -⟩
        refine sa (Sl a82 xs80 c83) rfl (w_end (q_blk ?_))
        obtain rfl := sj h
        exact ⟨rfl, _, σ84, a82, c83, fr_join ⟨rfl, rfl, rfl, rfl, rfl, trivial⟩, rfl, H.sel' [2, 3, 4, 0] rfl rfl⟩
       ·replace h := bif_f hb71 h
        refine c_skip (q_blk ?_)
        obtain rfl := sj h
        exact ⟨rfl, _, σ70, a23, c24, fr_join ⟨rfl, rfl, rfl, rfl, rfl, trivial⟩, rfl, H.sel' [0, 1, 2, 3] rfl rfl⟩
     ·clear hj
      have h := h'
      clear h' H
      rintro e a w ⟨rfl, ρ, σ85, a86, c87, rfl, rfl, H⟩
      refine q_then (rg (sm (I s21.2) rfl (st (v := (I (w64 (s21.2 + 1)))) (rv_add (a := s21.2) (b := 1) rfl rfl) (sa (I (w64 (s21.2 + 1))) rfl (w_end (q_then ?_))))))
      obtain rfl := sj h
      exact ⟨_, rfl, _, σ85, a86, c87, fr_join ⟨rfl, rfl, rfl, rfl, rfl, trivial⟩, rfl, H.sel' [0, 1, 2, 3] rfl rfl⟩
    ·replace h := bif_f hb25 h
     refine c_exit (q_then_x (q_then_x (q_blk_hit ?_)))
     obtain rfl := sj h
     obtain rfl := hres _ rfl
     exact ⟨rfl, _, σ22, a23, c24, fr_join ⟨rfl, trivial⟩, rfl, H.sel' [3] rfl rfl⟩
   ·clear hj
    have h := h'
    clear h' H
    rintro e a w ⟨rfl, ρ, σ88, a89, c90, rfl, rfl, H⟩
    refine q_then (c_seq (rg (sm (Sl a89 o20 c90) rfl (sa (Sl a89 o20 c90) rfl (w_end (q_then (c_ret ?_)))))))
    obtain rfl := sj h
    exact fin_ret (v := (Sl a89 o20 c90)) (results_ok Try.results37 (res_tmp (v := (Sl a89 o20 c90)) rfl res_nil) rfl) ⟨a89, c90, rfl, rfl⟩ (H.sel' [0] rfl rfl)

theorem c_laws_FnInBoxOne {Et : List UInt8} {Eu : Option Addr} {Ev : Nat} {r : Bool} (h : M.laws_FnInBoxOne Et = some r) :
    Cal2 Try.prog 12 [(Sl Eu Et Ev)] [Ch.ro 0 (Sl Eu Et Ev) Et] (fun n0 v L => v = (B r) ∧ L = []) := by
 refine cal2 (n := 52) Try.func12 rfl rfl rfl rfl ?_
 intro S0 σ0 n0 hn0 H
 unfold M.laws_FnInBoxOne at h
 refine c_seq (rg (sa (B false) rfl (w_end (q_then (c_seq (c_seq (rg (sm (Sl Eu Et Ev) rfl (st (v := (I (Et.length : Int))) (rv_len Try.underlying22 rfl) (st (v := (B (decide (1048576 < (Et.length : Int))))) (rv_gtr (a := (Et.length : Int)) (b := 1048576) rfl rfl) (w_end ?_)))))))))))
 refine q_then ?_
 refine cd_cond (decide (1048576 < (Et.length : Int))) rfl (fun hb1 => ?_) (fun hb1 => ?_)
 ·replace h := bif_t hb1 h
  refine c_seq (rg (sa (B true) rfl (w_end (q_then (c_ret (q_then_r ?_))))))
  obtain rfl := sj h
  exact fin_ret (v := (B true)) (results_ok Try.results12 (res_tmp (v := (B true)) rfl res_nil) rfl) ⟨rfl, rfl⟩ (H.sel' [] rfl rfl)
 ·replace h := bif_f hb1 h
  refine c_skip (q_then (c_seq (rg (sm (Sl Eu Et Ev) rfl ?_))))
  revert h; refine br fun r2 hx3 h => ?_
  have hc4 := c_spec_DrawInBox (Eu := Eu) (Ev := Ev) hx3
  refine st_call (cx_call hc4 (ent_f hc4.fn rfl) hn0 (H.sel' [0, 0] rfl rfl : Hp S0 σ0 _ ([_] ++ _))) wn ?_
  rintro _ σ11 ⟨_, ⟨a5, c6, a7, c8, a9, c10, rfl, rfl⟩, H, -⟩
  replace H : Hp _ _ _ [_, _, _, _] := H
  refine sm (.tuple #[(Sl a5 r2.1 c6), (Sl a7 r2.2.1 c8), (Sl a9 r2.2.2 c10)]) rfl (st (v := (Sl a5 r2.1 c6)) (rv_extract rfl rfl) (st (v := (Sl a7 r2.2.1 c8)) (rv_extract rfl rfl) (st (v := (Sl a9 r2.2.2 c10)) (rv_extract rfl rfl) (sa (Sl a5 r2.1 c6) rfl (sa (Sl a7 r2.2.1 c8) rfl (sa (Sl a9 r2.2.2 c10) rfl (w_end (q_then (c_seq (rg (sm (Sl a5 r2.1 c6) rfl ?_)))))))))))
  refine sm (Sl a7 r2.2.1 c8) rfl (sm (Sl a9 r2.2.2 c10) rfl ?_)
  revert h; refine br fun r12 hx13 h => ?_
  have hc14 := c_impl_InBox (Aj := a5) (Ak := c6) (Eo := a7) (Ep := c8) (Er := a9) (Es := c10) hx13
  have hle := Nat.le_trans hn0 H.size
  refine st_call (cx_lend (Loan.lend (Loan.lend (Loan.lend Loan.nil))) hc14 (ent_f hc14.fn rfl) (show Hp S0 σ0 _ ([Ch.own n0 n0 (Sl a5 r2.1 c6) r2.1, Ch.own n0 n0 (Sl a7 r2.2.1 c8) r2.2.1, Ch.own n0 n0 (Sl a9 r2.2.2 c10) r2.2.2] ++ ([] ++ [Ch.ro 0 (Sl Eu Et Ev) Et])) from (H.sel' [0, 1, 2, 3] rfl rfl)) (by rintro _ _ _ ⟨_, _, rfl, rfl⟩; exact ⟨Ab.ownSc, trivial⟩)) wn ?_
  rintro _ σ17 ⟨_, ⟨a15, c16, rfl, rfl⟩, H, -, -⟩
  replace H : Hp _ _ _ [_, _, _, _, _] := H
  replace H := H.ownLow 0 n0 n0 rfl hle hle
  clear hle
  replace H : Hp _ _ _ [_, _, _, _, _] := H
  refine sa (Sl a15 r12 c16) rfl (w_end (q_then (c_seq (c_seq ?_))))
  obtain ⟨o18, hj, h'⟩ := bind_some h
  clear h
  refine c_cut (fun e a w => e = .normal ∧ ∃ (ρ : Nat → Value) (σ : St), a = fr 52 (updL ρ [(3, (Sl a5 r2.1 c6)), (4, (Sl a7 r2.2.1 c8)), (5, (Sl a9 r2.2.2 c10)), (6, (Sl a15 r12 c16)), (36, (B o18))]) ∧ w = σ.w ∧ Hp S0 σ0 σ [Ch.own n0 n0 (Sl a5 r2.1 c6) r2.1, Ch.own n0 n0 (Sl a7 r2.2.1 c8) r2.2.1, Ch.own n0 n0 (Sl a9 r2.2.2 c10) r2.2.2, Ch.own n0 n0 (Sl a15 r12 c16) r12]) ?_ ?_
  ·clear h'
   rename _ = some o18 => h
   refine rg (sm (Sl a15 r12 c16) rfl (sm (Sl a5 r2.1 c6) rfl (sm (Sl a7 r2.2.1 c8) rfl (sm (Sl a9 r2.2.2 c10) rfl ?_))))
   revert h; refine br fun r19 hx20 h => ?_
   have hc21 := c_spec_InBox (Aj := a5) (Ak := c6) (Eo := a7) (Ep := c8) (Er := a9) (Es := c10) hx20
   have hle := Nat.le_trans hn0 H.size
   refine st_call (cx_lend (Loan.lend (Loan.lend (Loan.lend Loan.nil))) hc21 (ent_f hc21.fn rfl) (show Hp S0 σ0 _ ([Ch.own n0 n0 (Sl a5 r2.1 c6) r2.1, Ch.own n0 n0 (Sl a7 r2.2.1 c8) r2.2.1, Ch.own n0 n0 (Sl a9 r2.2.2 c10) r2.2.2] ++ ([] ++ [Ch.own n0 n0 (Sl a15 r12 c16) r12, Ch.ro 0 (Sl Eu Et Ev) Et])) from (H.sel' [1, 2, 3, 0, 4] rfl rfl)) (by rintro _ _ _ ⟨_, _, rfl, rfl⟩; exact ⟨Ab.ownSc, trivial⟩)) wn ?_
   rintro _ σ24 ⟨_, ⟨a22, c23, rfl, rfl⟩, H, -, -⟩
   replace H : Hp _ _ _ [_, _, _, _, _, _] := H
   replace H := H.ownLow 0 n0 n0 rfl hle hle
   clear hle
   replace H : Hp _ _ _ [_, _, _, _, _, _] := H
   obtain ⟨σ25, hw26, H, -⟩ := H.pub 0 rfl (Nat.le_refl _)
   rw [← hw26]; clear hw26
   replace H := H.roLow 0 0 rfl (Nat.zero_le _)
   revert h; refine br fun r27 hx28 h => ?_
   have hc29 := c_laws_equalInts (Ff := a15) (Fg := c16) (Fh := a22) (Fi := c23) hx28
   have hle := Nat.le_trans hn0 H.size
   refine st_call (cx_lend (Loan.lend (Loan.same Loan.nil)) hc29 (ent_f hc29.fn rfl) (show Hp S0 σ0 _ ([Ch.own n0 n0 (Sl a15 r12 c16) r12] ++ ([Ch.ro 0 (Sl a22 r19 c23) r19] ++ [Ch.ro 0 (Sl a22 r19 c23) r19, Ch.ro n0 (Sl a22 r19 c23) r19, Ch.own n0 n0 (Sl a5 r2.1 c6) r2.1, Ch.own n0 n0 (Sl a7 r2.2.1 c8) r2.2.1, Ch.own n0 n0 (Sl a9 r2.2.2 c10) r2.2.2, Ch.ro 0 (Sl Eu Et Ev) Et])) from (H.sel' [5, 0, 0, 1, 2, 3, 4, 6] rfl rfl)) (by rintro _ _ _ ⟨rfl, rfl⟩; exact trivial)) wn ?_
   rintro _ σ30 ⟨_, ⟨rfl, rfl⟩, H, -, -⟩
   replace H : Hp _ _ _ [_, _, _, _, _, _, _] := H
   clear hle
   replace H : Hp _ _ _ [_, _, _, _, _, _, _] := H
   refine st (v := (B (!r27))) (rv_not rfl) (sm (B (!r27)) rfl ?_)
   rcases Bool.eq_false_or_eq_true (!r27) with hb31 | hb31
   ·replace h := bif_t hb31 h
    refine st_skip (congrArg some hb31) (st_skip (congrArg some hb31) (st_skip (congrArg some hb31) (st (v := (B true)) (rv_pick_t (congrArg B hb31) rfl) (sm (B true) rfl (st_skip rfl (st_skip rfl (st_skip rfl (st (v := (B true)) (rv_pick_t rfl rfl) (w_end ?_)))))))))
    obtain rfl := sj h
    exact ⟨rfl, _, σ30, fr_join ⟨rfl, rfl, rfl, rfl, rfl, trivial⟩, rfl, H.sel' [3, 4, 5, 0] rfl rfl⟩
   ·replace h := bif_f hb31 h
    refine st_g (v := (Sl a5 r2.1 c6)) (congrArg some hb31) (rv_move rfl) ?_
    revert h; refine br fun r32 hx33 h => ?_
    have hc34 := c_impl_ValidStore (Aj := a5) (Ak := c6) hx33
    have hle := Nat.le_trans hn0 H.size
    refine st_call (cx_lend (Loan.lend Loan.nil) hc34 (ent_f hc34.fn rfl) (show Hp S0 σ0 _ ([Ch.own n0 n0 (Sl a5 r2.1 c6) r2.1] ++ ([] ++ [Ch.own n0 n0 (Sl a15 r12 c16) r12, Ch.ro 0 (Sl a22 r19 c23) r19, Ch.ro n0 (Sl a22 r19 c23) r19, Ch.own n0 n0 (Sl a7 r2.2.1 c8) r2.2.1, Ch.own n0 n0 (Sl a9 r2.2.2 c10) r2.2.2, Ch.ro 0 (Sl Eu Et Ev) Et])) from (H.sel' [3, 0, 1, 2, 4, 5, 6] rfl rfl)) (by rintro _ _ _ ⟨rfl, rfl⟩; exact trivial)) (wanted_yes rfl (by exact (congrArg some hb31))) ?_
    rintro _ σ35 ⟨_, ⟨rfl, rfl⟩, H, -, -⟩
    replace H : Hp _ _ _ [_, _, _, _, _, _, _] := H
    clear hle
    replace H : Hp _ _ _ [_, _, _, _, _, _, _] := H
    refine st_g (v := (B (!r32))) (congrArg some hb31) (rv_not rfl) (st (v := (B (!r32))) (rv_pick_f (congrArg B hb31) rfl) (sm (B (!r32)) rfl ?_))
    rcases Bool.eq_false_or_eq_true (!r32) with hb36 | hb36
    ·replace h := bif_t hb36 h
     refine st_skip (congrArg some hb36) (st_skip (congrArg some hb36) (st_skip (congrArg some hb36) (st (v := (B true)) (rv_pick_t (congrArg B hb36) rfl) (w_end ?_))))
     obtain rfl := sj h
     exact ⟨rfl, _, σ35, fr_join ⟨rfl, rfl, rfl, rfl, rfl, trivial⟩, rfl, H.sel' [0, 4, 5, 1] rfl rfl⟩
    ·replace h := bif_f hb36 h
     refine st_g (v := (Sl a7 r2.2.1 c8)) (congrArg some hb36) (rv_move rfl) ?_
     revert h; refine br fun r37 hx38 h => ?_
     have hc39 := c_impl_ValidVector (Ac := a7) (Ad := c8) hx38
     have hle := Nat.le_trans hn0 H.size
     refine st_call (cx_lend (Loan.lend Loan.nil) hc39 (ent_f hc39.fn rfl) (show Hp S0 σ0 _ ([Ch.own n0 n0 (Sl a7 r2.2.1 c8) r2.2.1] ++ ([] ++ [Ch.own n0 n0 (Sl a5 r2.1 c6) r2.1, Ch.own n0 n0 (Sl a15 r12 c16) r12, Ch.ro 0 (Sl a22 r19 c23) r19, Ch.ro n0 (Sl a22 r19 c23) r19, Ch.own n0 n0 (Sl a9 r2.2.2 c10) r2.2.2, Ch.ro 0 (Sl Eu Et Ev) Et])) from (H.sel' [4, 0, 1, 2, 3, 5, 6] rfl rfl)) (by rintro _ _ _ ⟨rfl, rfl⟩; exact trivial)) (wanted_yes rfl (by exact (congrArg some hb36))) ?_
     rintro _ σ40 ⟨_, ⟨rfl, rfl⟩, H, -, -⟩
     replace H : Hp _ _ _ [_, _, _, _, _, _, _] := H
     clear hle
     replace H : Hp _ _ _ [_, _, _, _, _, _, _] := H
     refine st_g (v := (B (!r37))) (congrArg some hb36) (rv_not rfl) (st (v := (B (!r37))) (rv_pick_f (congrArg B hb36) rfl) (w_end ?_))
     obtain rfl := sj h
     exact ⟨rfl, _, σ40, fr_join ⟨rfl, rfl, rfl, rfl, rfl, trivial⟩, rfl, H.sel' [1, 0, 5, 2] rfl rfl⟩
  ·clear hj
   have h := h'
   clear h' H
   rintro e a w ⟨rfl, ρ, σ41, rfl, rfl, H⟩
   refine q_then ?_
   refine cd_cond o18 rfl (fun hb42 => ?_) (fun hb42 => ?_)
   ·replace h := bif_t hb42 h
    refine c_seq (rg (sm (Sl a15 r12 c16) rfl (sm (Sl a5 r2.1 c6) rfl (sm (Sl a7 r2.2.1 c8) rfl (sm (Sl a9 r2.2.2 c10) rfl ?_)))))
    obtain ⟨σ43, hw44, H, -⟩ := H.pub 0 rfl (Nat.le_refl _)
    rw [← hw44]; clear hw44
    obtain ⟨σ45, hw46, H, -⟩ := H.pub 1 rfl (Nat.le_refl _)
    rw [← hw46]; clear hw46
    obtain ⟨σ47, hw48, H, -⟩ := H.pub 2 rfl (Nat.le_refl _)
    rw [← hw48]; clear hw48
    replace H := H.roLow 2 0 rfl (Nat.zero_le _)
    replace H := H.roLow 2 0 rfl (Nat.zero_le _)
    replace H := H.roLow 2 0 rfl (Nat.zero_le _)
    revert h; refine br fun r49 hx50 h => ?_
    have hc51 := c_spec_InBox (Aj := a5) (Ak := c6) (Eo := a7) (Ep := c8) (Er := a9) (Es := c10) hx50
    refine st_call (cx_call hc51 (ent_f hc51.fn rfl) hn0 (H.sel' [2, 1, 0, 0, 1, 2, 3, 4, 5, 6] rfl rfl : Hp S0 σ0 _ ([_, _, _] ++ _))) wn ?_
    rintro _ σ54 ⟨_, ⟨a52, c53, rfl, rfl⟩, H, -⟩
    replace H : Hp _ _ _ [_, _, _, _, _, _, _, _] := H
    replace H : Hp S0 σ0 σ54 [Ch.own n0 n0 (Sl a52 r49 c53) r49, Ch.own n0 n0 (Sl a15 r12 c16) r12] := H.sel' [0, 7] rfl rfl
    obtain ⟨σ55, hw56, H, -⟩ := H.pub 1 rfl (Nat.le_refl _)
    rw [← hw56]; clear hw56
    obtain ⟨σ57, hw58, H, -⟩ := H.pub 1 rfl (Nat.le_refl _)
    rw [← hw58]; clear hw58
    replace H := H.roLow 1 0 rfl (Nat.zero_le _)
    replace H := H.roLow 1 0 rfl (Nat.zero_le _)
    revert h; refine br fun r59 hx60 h => ?_
    have hc61 := c_laws_equalInts (Ff := a15) (Fg := c16) (Fh := a52) (Fi := c53) hx60
    refine st_call (cx_call hc61 (ent_f hc61.fn rfl) hn0 (H.sel' [1, 0, 0, 1, 2, 3] rfl rfl : Hp S0 σ0 _ ([_, _] ++ _))) wn ?_
    rintro _ σ62 ⟨_, ⟨rfl, rfl⟩, H, -⟩
    replace H : Hp _ _ _ [_, _, _, _] := H
    refine sa (B r59) rfl (w_end (q_then (c_ret (q_then_r ?_))))
    obtain rfl := sj h
    exact fin_ret (v := (B r59)) (results_ok Try.results12 (res_tmp (v := (B r59)) rfl res_nil) rfl) ⟨rfl, rfl⟩ (H.sel' [] rfl rfl)
   ·replace h := bif_f hb42 h
    refine c_skip (q_then (c_seq (rg (sm (Sl a5 r2.1 c6) rfl (sm (Sl a7 r2.2.1 c8) rfl (sm (Sl a7 r2.2.1 c8) rfl ?_))))))
    revert h; refine br fun r63 hx64 h => ?_
    have hc65 := c_impl_InBox (Aj := a5) (Ak := c6) (Eo := a7) (Ep := c8) (Er := a7) (Es := c8) hx64
    have hle := Nat.le_trans hn0 H.size
    refine st_call (cx_lend (Loan.lend (Loan.again (k := 0) (Loan.lend Loan.nil) rfl)) hc65 (ent_f hc65.fn rfl) (show Hp S0 σ0 _ ([Ch.own n0 n0 (Sl a5 r2.1 c6) r2.1, Ch.own n0 n0 (Sl a7 r2.2.1 c8) r2.2.1] ++ ([] ++ [Ch.own n0 n0 (Sl a9 r2.2.2 c10) r2.2.2, Ch.own n0 n0 (Sl a15 r12 c16) r12])) from (H.sel' [0, 1, 2, 3] rfl rfl)) (by rintro _ _ _ ⟨_, _, rfl, rfl⟩; exact ⟨Ab.ownSc, trivial⟩)) wn ?_
    rintro _ σ68 ⟨_, ⟨a66, c67, rfl, rfl⟩, H, -, -⟩
    replace H : Hp _ _ _ [_, _, _, _, _] := H
    replace H := H.ownLow 0 n0 n0 rfl hle hle
    clear hle
    replace H : Hp _ _ _ [_, _, _, _, _] := H
    refine sm (Sl a5 r2.1 c6) rfl (sm (Sl a7 r2.2.1 c8) rfl ?_)
    obtain ⟨σ69, hw70, H, -⟩ := H.pub 1 rfl (Nat.le_refl _)
    rw [← hw70]; clear hw70
    obtain ⟨σ71, hw72, H, -⟩ := H.pub 2 rfl (Nat.le_refl _)
    rw [← hw72]; clear hw72
    replace H := H.roLow 1 0 rfl (Nat.zero_le _)
    replace H := H.roLow 1 0 rfl (Nat.zero_le _)
    revert h; refine br fun r73 hx74 h => ?_
    have hc75 := c_impl_WithinDist (Aj := a5) (Ak := c6) (Ar := a7) (As := c8) hx74
    refine st_call (cx_call hc75 (ent_f hc75.fn rfl) hn0 (H.sel' [1, 0, 0, 1, 2, 3, 4, 5, 6] rfl rfl : Hp S0 σ0 _ ([_, _] ++ _))) wn ?_
    rintro _ σ78 ⟨_, ⟨a76, c77, rfl, rfl⟩, H, -⟩
    replace H : Hp _ _ _ [_, _, _, _, _, _, _, _] := H
    replace H : Hp S0 σ0 σ78 [Ch.own 0 n0 (Sl a76 r73 c77) r73, Ch.own n0 n0 (Sl a66 r63 c67) r63] := H.sel' [0, 5] rfl rfl
    replace H := H.ownLow 0 0 0 rfl (Nat.le_refl _) (Nat.zero_le _)
    obtain ⟨σ79, hw80, H, -⟩ := H.pub 0 rfl (Nat.le_refl _)
    rw [← hw80]; clear hw80
    revert h; refine br fun r81 hx82 h => ?_
    have hc83 := c_laws_keys (Aj := a76) (Ak := c77) hx82
    refine st_call (cx_call hc83 (ent_f hc83.fn rfl) hn0 (H.sel' [0, 0, 1] rfl rfl : Hp S0 σ0 _ ([_] ++ _))) wn ?_
    rintro _ σ86 ⟨_, ⟨a84, c85, rfl, rfl⟩, H, -⟩
    replace H : Hp _ _ _ [_, _, _] := H
    obtain ⟨σ87, hw88, H, -⟩ := H.pub 2 rfl (Nat.le_refl _)
    rw [← hw88]; clear hw88
    obtain ⟨σ89, hw90, H, -⟩ := H.pub 1 rfl (Nat.le_refl _)
    rw [← hw90]; clear hw90
    replace H := H.roLow 1 0 rfl (Nat.zero_le _)
    replace H := H.roLow 1 0 rfl (Nat.zero_le _)
    revert h; refine br fun r91 hx92 h => ?_
    have hc93 := c_laws_equalInts (Ff := a66) (Fg := c67) (Fh := a84) (Fi := c85) hx92
    refine st_call (cx_call hc93 (ent_f hc93.fn rfl) hn0 (H.sel' [1, 0, 0, 1, 2, 3, 4] rfl rfl : Hp S0 σ0 _ ([_, _] ++ _))) wn ?_
    rintro _ σ94 ⟨_, ⟨rfl, rfl⟩, H, -⟩
    replace H : Hp _ _ _ [_, _, _, _, _] := H
    refine sa (B r91) rfl (w_end (q_then (c_ret ?_)))
    obtain rfl := sj h
    exact fin_ret (v := (B r91)) (results_ok Try.results12 (res_tmp (v := (B r91)) rfl res_nil) rfl) ⟨rfl, rfl⟩ (H.sel' [] rfl rfl)

end Go.Vs
