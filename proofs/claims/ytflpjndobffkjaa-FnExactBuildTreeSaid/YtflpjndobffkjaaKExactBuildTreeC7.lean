/- The functions compute what their models say. -/
import Derived.Test.YtflpjndobffkjaaKExactBuildTreeC6
set_option linter.unusedVariables false
set_option linter.unusedSimpArgs false
set_option maxRecDepth 20000
namespace Go.Vs
open Go Go.Proofs
attribute [local irreducible] Code.wp Code.wpIn wpList wpListIn wpQuiet Calls CallsIn

theorem c_laws_markNodeS {Aq : List (Int × Int × Int × Int)} {Gz : Int} {Gr : Option Addr} {Gs : Nat} {r : Int × (List (Int × Int × Int × Int))} (h : M.laws_markNodeS Aq Gz = some r) :
    Cal2 Try.prog 30 [(Sl Gr Aq Gs), (I Gz)] [Ch.own 0 0 (Sl Gr Aq Gs) Aq] (fun n0 v L => v = (I r.1) ∧ L = [Ch.own 0 0 (Sl Gr r.2 Gs) r.2] ∧ r.2.length = Aq.length) := by
 refine cal2 (n := 41) Try.func30 rfl rfl rfl rfl ?_
 intro S0 σ0 n0 hn0 H
 unfold M.laws_markNodeS at h
 refine c_seq (rg (st (v := (I 0)) (rv_assign rfl) (w_end (q_then (c_seq (c_seq (rg (st (v := (I 0)) (rv_assign rfl) (w_end (q_then ?_))))))))))
 obtain ⟨o1, hj, h'⟩ := bind_some h
 clear h
 refine c_cut (fun e a w => e = .normal ∧ ∃ (ρ : Nat → Value) (σ : St), a = fr 41 (updL ρ [(0, (Sl Gr o1.1 Gs)), (1, (I o1.2))]) ∧ w = σ.w ∧ Hp S0 σ0 σ [Ch.own 0 0 (Sl Gr o1.1 Gs) o1.1] ∧ o1.1.length = Aq.length) ?_ ?_
 ·clear h'
  rename _ = some o1 => h
  refine c_blk (wp_loopM _ h (fun s2 a w => ∃ (ρ : Nat → Value) (σ : St), a = fr 41 (updL ρ [(0, (Sl Gr s2.1 Gs)), (1, (I s2.2.1)), (5, (I s2.2.2))]) ∧ w = σ.w ∧ Hp S0 σ0 σ [Ch.own 0 0 (Sl Gr s2.1 Gs) s2.1] ∧ s2.1.length = Aq.length) ⟨_, σ0, fr_join ⟨rfl, rfl, rfl, trivial⟩, rfl, H.sel' [0] rfl rfl, rfl⟩ ?_)
  clear h H
  rintro s2 a w o ⟨ρ, σ3, rfl, rfl, H, hn4⟩ h hres
  refine c_seq (c_seq (rg (st (v := (I s2.2.2)) (rv_move rfl) (st (v := (Sl Gr s2.1 Gs)) (rv_move rfl) (st (v := (I (s2.1.length : Int))) (rv_len Try.underlying26 rfl) (st (v := (B (decide (s2.2.2 < (s2.1.length : Int))))) (rv_lss (a := s2.2.2) (b := (s2.1.length : Int)) rfl rfl) (w_end (q_then ?_))))))))
  refine cd_cond (decide (s2.2.2 < (s2.1.length : Int))) rfl (fun hb5 => ?_) (fun hb5 => ?_)
  ·replace h := bif_t hb5 h
   refine c_skip (q_then (c_seq (c_blk (c_seq (rg (st (v := (Sl Gr s2.1 Gs)) (rv_move rfl) (st (v := (I s2.2.2)) (rv_move rfl) (st (v := (I s2.2.1)) (rv_move rfl) ?_))))))))
   obtain ⟨x6, hx7, h'⟩ := bind_some h
   clear h
   have h := h'; clear h'
   obtain ⟨b9, o10, hi8, -⟩ := (H.own 0 rfl).ix hx7
   refine st (v := (pt b9 o10)) (rv_ix Try.underlying26 ti31 rfl rfl hi8) (st (v := (pt b9 (o10 + 0))) (rv_fieldAddr (off := 0) (ft := 3) Try.underlying31 rfl ti3 rfl rfl) ?_)
   refine st_exS (ex_store_own (e' := (s2.2.1, x6.2.1, x6.2.2.1, x6.2.2.2)) (vs := [(I s2.2.1)]) (k := 0) H (i := 0) rfl ti3 hx7 hi8 rfl rfl rfl rfl rfl (Nat.le_of_ble_eq_true rfl) (by simp [plain]) (by rintro _ ⟨_, _, rfl, rfl, ⟨_, _, rfl, rfl, ⟨_, _, rfl, rfl, rfl⟩⟩⟩; exact ⟨[(I s2.2.1)], [(I x6.2.1), (I x6.2.2.1), (I x6.2.2.2)], rfl, rfl, ⟨[(I x6.2.1)], [(I x6.2.2.1), (I x6.2.2.2)], rfl, rfl, ⟨[(I x6.2.2.1)], [(I x6.2.2.2)], rfl, rfl, rfl⟩⟩⟩)) wn ?_
   rintro σ11 ⟨H, -⟩
   have hsl : (Sl Gr s2.1 Gs) = (Sl Gr (s2.1.set s2.2.2.toNat (s2.2.1, x6.2.1, x6.2.2.1, x6.2.2.2)) Gs) := sl_len List.length_set.symm
   rw [hsl]; rw [hsl] at H; clear hsl
   refine w_end (q_then (c_seq (rg (st (v := (I s2.2.1)) (rv_move rfl) (st (v := (I (w64 (s2.2.1 + 1)))) (rv_add (a := s2.2.1) (b := 1) rfl rfl) (st (v := (I (w64 (s2.2.1 + 1)))) (rv_assign rfl) (w_end (q_then (c_seq (rg (st (v := (Sl Gr (s2.1.set s2.2.2.toNat (s2.2.1, x6.2.1, x6.2.2.1, x6.2.2.2)) Gs)) (rv_move rfl) ?_)))))))))))
   refine st (v := (I s2.2.2)) (rv_move rfl) (st (v := (I (w64 (s2.2.1 + 1)))) (rv_move rfl) ?_)
   obtain ⟨x12, hx13, h'⟩ := bind_some h
   clear h
   have h := h'; clear h'
   obtain ⟨b15, o16, hi14, -⟩ := (H.own 0 rfl).ix hx13
   refine st (v := (pt b15 o16)) (rv_ix Try.underlying26 ti31 rfl rfl hi14) (st (v := (pt b15 (o16 + 1))) (rv_fieldAddr (off := 1) (ft := 3) Try.underlying31 rfl ti3 rfl rfl) ?_)
   refine st_exS (ex_store_own (e' := (x12.1, w64 (s2.2.1 + 1), x12.2.2.1, x12.2.2.2)) (vs := [(I (w64 (s2.2.1 + 1)))]) (k := 1) H (i := 0) rfl ti3 hx13 hi14 rfl rfl rfl rfl rfl (Nat.le_of_ble_eq_true rfl) (by simp [plain]) (by rintro _ ⟨_, _, rfl, rfl, ⟨_, _, rfl, rfl, ⟨_, _, rfl, rfl, rfl⟩⟩⟩; exact ⟨[(I x12.1)], [(I (w64 (s2.2.1 + 1))), (I x12.2.2.1), (I x12.2.2.2)], rfl, rfl, ⟨[(I (w64 (s2.2.1 + 1)))], [(I x12.2.2.1), (I x12.2.2.2)], rfl, rfl, ⟨[(I x12.2.2.1)], [(I x12.2.2.2)], rfl, rfl, rfl⟩⟩⟩)) wn ?_
   rintro σ17 ⟨H, -⟩
   have hsl : (Sl Gr (s2.1.set s2.2.2.toNat (s2.2.1, x6.2.1, x6.2.2.1, x6.2.2.2)) Gs) = (Sl Gr ((s2.1.set s2.2.2.toNat (s2.2.1, x6.2.1, x6.2.2.1, x6.2.2.2)).set s2.2.2.toNat (x12.1, w64 (s2.2.1 + 1), x12.2.2.1, x12.2.2.2)) Gs) := sl_len List.length_set.symm
   rw [hsl]; rw [hsl] at H; clear hsl
   refine w_end (q_then (c_seq (rg (st (v := (I (w64 (s2.2.1 + 1)))) (rv_move rfl) (st (v := (I (w64 ((w64 (s2.2.1 + 1)) + 1)))) (rv_add (a := (w64 (s2.2.1 + 1))) (b := 1) rfl rfl) (st (v := (I (w64 ((w64 (s2.2.1 + 1)) + 1)))) (rv_assign rfl) (w_end (q_then (c_seq (rg (st (v := (Sl Gr ((s2.1.set s2.2.2.toNat (s2.2.1, x6.2.1, x6.2.2.1, x6.2.2.2)).set s2.2.2.toNat (x12.1, w64 (s2.2.1 + 1), x12.2.2.1, x12.2.2.2)) Gs)) (rv_move rfl) ?_)))))))))))
   refine st (v := (I s2.2.2)) (rv_move rfl) (st (v := (I (w64 ((w64 (s2.2.1 + 1)) + 1)))) (rv_move rfl) ?_)
   obtain ⟨x18, hx19, h'⟩ := bind_some h
   clear h
   have h := h'; clear h'
   obtain ⟨b21, o22, hi20, -⟩ := (H.own 0 rfl).ix hx19
   refine st (v := (pt b21 o22)) (rv_ix Try.underlying26 ti31 rfl rfl hi20) (st (v := (pt b21 (o22 + 2))) (rv_fieldAddr (off := 2) (ft := 3) Try.underlying31 rfl ti3 rfl rfl) ?_)
   refine st_exS (ex_store_own (e' := (x18.1, x18.2.1, w64 ((w64 (s2.2.1 + 1)) + 1), x18.2.2.2)) (vs := [(I (w64 ((w64 (s2.2.1 + 1)) + 1)))]) (k := 2) H (i := 0) rfl ti3 hx19 hi20 rfl rfl rfl rfl rfl (Nat.le_of_ble_eq_true rfl) (by simp [plain]) (by rintro _ ⟨_, _, rfl, rfl, ⟨_, _, rfl, rfl, ⟨_, _, rfl, rfl, rfl⟩⟩⟩; exact ⟨[(I x18.1)], [(I x18.2.1), (I (w64 ((w64 (s2.2.1 + 1)) + 1))), (I x18.2.2.2)], rfl, rfl, ⟨[(I x18.2.1)], [(I (w64 ((w64 (s2.2.1 + 1)) + 1))), (I x18.2.2.2)], rfl, rfl, ⟨[(I (w64 ((w64 (s2.2.1 + 1)) + 1)))], [(I x18.2.2.2)], rfl, rfl, rfl⟩⟩⟩)) wn ?_
   rintro σ23 ⟨H, -⟩
   have hsl : (Sl Gr ((s2.1.set s2.2.2.toNat (s2.2.1, x6.2.1, x6.2.2.1, x6.2.2.2)).set s2.2.2.toNat (x12.1, w64 (s2.2.1 + 1), x12.2.2.1, x12.2.2.2)) Gs) = (Sl Gr (((s2.1.set s2.2.2.toNat (s2.2.1, x6.2.1, x6.2.2.1, x6.2.2.2)).set s2.2.2.toNat (x12.1, w64 (s2.2.1 + 1), x12.2.2.1, x12.2.2.2)).set s2.2.2.toNat (x18.1, x18.2.1, w64 ((w64 (s2.2.1 + 1)) + 1), x18.2.2.2)) Gs) := sl_len List.length_set.symm
   rw [hsl]; rw [hsl] at H; clear hsl
   refine w_end (q_then (c_seq (rg (st (v := (I (w64 ((w64 (s2.2.1 + 1)) + 1)))) (rv_move rfl) (st (v := (I (w64 ((w64 ((w64 (s2.2.1 + 1)) + 1)) + 1)))) (rv_add (a := (w64 ((w64 (s2.2.1 + 1)) + 1))) (b := 1) rfl rfl) (st (v := (I (w64 ((w64 ((w64 (s2.2.1 + 1)) + 1)) + 1)))) (rv_assign rfl) (w_end (q_then (c_seq (rg (st (v := (Sl Gr (((s2.1.set s2.2.2.toNat (s2.2.1, x6.2.1, x6.2.2.1, x6.2.2.2)).set s2.2.2.toNat (x12.1, w64 (s2.2.1 + 1), x12.2.2.1, x12.2.2.2)).set s2.2.2.toNat (x18.1, x18.2.1, w64 ((w64 (s2.2.1 + 1)) + 1), x18.2.2.2)) Gs)) (rv_move rfl) ?_)))))))))))
   refine st (v := (I s2.2.2)) (rv_move rfl) (st (v := (I (w64 ((w64 ((w64 (s2.2.1 + 1)) + 1)) + 1)))) (rv_move rfl) ?_)
   obtain ⟨x24, hx25, h'⟩ := bind_some h
   clear h
   have h := h'; clear h'
   obtain ⟨b27, o28, hi26, -⟩ := (H.own 0 rfl).ix hx25
   refine st (v := (pt b27 o28)) (rv_ix Try.underlying26 ti31 rfl rfl hi26) (st (v := (pt b27 (o28 + 3))) (rv_fieldAddr (off := 3) (ft := 3) Try.underlying31 rfl ti3 rfl rfl) ?_)
   refine st_exS (ex_store_own (e' := (x24.1, x24.2.1, x24.2.2.1, w64 ((w64 ((w64 (s2.2.1 + 1)) + 1)) + 1))) (vs := [(I (w64 ((w64 ((w64 (s2.2.1 + 1)) + 1)) + 1)))]) (k := 3) H (i := 0) rfl ti3 hx25 hi26 rfl rfl rfl rfl rfl (Nat.le_of_ble_eq_true rfl) (by simp [plain]) (by rintro _ ⟨_, _, rfl, rfl, ⟨_, _, rfl, rfl, ⟨_, _, rfl, rfl, rfl⟩⟩⟩; exact ⟨[(I x24.1)], [(I x24.2.1), (I x24.2.2.1), (I (w64 ((w64 ((w64 (s2.2.1 + 1)) + 1)) + 1)))], rfl, rfl, ⟨[(I x24.2.1)], [(I x24.2.2.1), (I (w64 ((w64 ((w64 (s2.2.1 + 1)) + 1)) + 1)))], rfl, rfl, ⟨[(I x24.2.2.1)], [(I (w64 ((w64 ((w64 (s2.2.1 + 1)) + 1)) + 1)))], rfl, rfl, rfl⟩⟩⟩)) wn ?_
   rintro σ29 ⟨H, -⟩
   have hsl : (Sl Gr (((s2.1.set s2.2.2.toNat (s2.2.1, x6.2.1, x6.2.2.1, x6.2.2.2)).set s2.2.2.toNat (x12.1, w64 (s2.2.1 + 1), x12.2.2.1, x12.2.2.2)).set s2.2.2.toNat (x18.1, x18.2.1, w64 ((w64 (s2.2.1 + 1)) + 1), x18.2.2.2)) Gs) = (Sl Gr ((((s2.1.set s2.2.2.toNat (s2.2.1, x6.2.1, x6.2.2.1, x6.2.2.2)).set s2.2.2.toNat (x12.1, w64 (s2.2.1 + 1), x12.2.2.1, x12.2.2.2)).set s2.2.2.toNat (x18.1, x18.2.1, w64 ((w64 (s2.2.1 + 1)) + 1), x18.2.2.2)).set s2.2.2.toNat (x24.1, x24.2.1, x24.2.2.1, w64 ((w64 ((w64 (s2.2.1 + 1)) + 1)) + 1))) Gs) := sl_len List.length_set.symm
   rw [hsl]; rw [hsl] at H; clear hsl
   refine w_end (q_then (rg (st (v := (I (w64 ((w64 ((w64 (s2.2.1 + 1)) + 1)) + 1)))) (rv_move rfl) (st (v := (I (w64 ((w64 ((w64 ((w64 (s2.2.1 + 1)) + 1)) + 1)) + 1)))) (rv_add (a := (w64 ((w64 ((w64 (s2.2.1 + 1)) + 1)) + 1))) (b := 1) rfl rfl) (st (v := (I (w64 ((w64 ((w64 ((w64 (s2.2.1 + 1)) + 1)) + 1)) + 1)))) (rv_assign rfl) (w_end (q_blk (q_then (rg (st (v := (I s2.2.2)) (rv_move rfl) (st (v := (I (w64 (s2.2.2 + 1)))) (rv_add (a := s2.2.2) (b := 1) rfl rfl) ?_)))))))))))
   refine st (v := (I (w64 (s2.2.2 + 1)))) (rv_assign rfl) (w_end (q_then ?_))
   obtain rfl := Option.some.inj h
   exact ⟨_, rfl, _, σ29, fr_join ⟨rfl, rfl, rfl, trivial⟩, rfl, H.sel' [0] rfl rfl, (List.length_set.trans (List.length_set.trans (List.length_set.trans (List.length_set.trans hn4))))⟩
  ·replace h := bif_f hb5 h
   refine c_exit (q_then_x (q_then_x (q_blk_hit ?_)))
   obtain rfl := Option.some.inj h
   obtain rfl := hres _ rfl
   exact ⟨rfl, _, σ3, fr_join ⟨rfl, rfl, trivial⟩, rfl, H.sel' [0] rfl rfl, hn4⟩
 ·clear hj
  have h := h'
  clear h' H
  rintro e a w ⟨rfl, ρ, σ30, rfl, rfl, H, hn31⟩
  refine q_then (c_seq (rg (st (v := (I o1.2)) (rv_move rfl) (st (v := (I o1.2)) (rv_assign rfl) (w_end (q_then (c_ret ?_)))))))
  obtain rfl := Option.some.inj h
  exact fin_ret (v := (I o1.2)) (results_ok Try.results30 (res_tmp (v := (I o1.2)) rfl res_nil) rfl) ⟨rfl, rfl, hn31⟩ (H.sel' [0] rfl rfl)

theorem c_laws_heldNodeS {Aq : List (Int × Int × Int × Int)} {Gz : Int} {Gr : Option Addr} {Gs : Nat} {r : Int} (h : M.laws_heldNodeS Aq Gz = some r) :
    Cal2 Try.prog 31 [(Sl Gr Aq Gs), (I Gz)] [Ch.ro 0 (Sl Gr Aq Gs) Aq] (fun n0 v L => v = (I r) ∧ L = []) := by
 refine cal2 (n := 49) Try.func31 rfl rfl rfl rfl ?_
 intro S0 σ0 n0 hn0 H
 unfold M.laws_heldNodeS at h
 refine c_seq (rg (st (v := (I 0)) (rv_assign rfl) (w_end (q_then (c_seq (c_seq (rg (st (v := (I 0)) (rv_assign rfl) (w_end (q_then ?_))))))))))
 obtain ⟨o1, hj, h'⟩ := bind_some h
 clear h
 refine c_cut (fun e a w => (∃ t, o1 = (.inl t) ∧ e = .normal ∧ ∃ (ρ : Nat → Value) (σ : St), a = fr 49 (updL ρ [(1, (I t))]) ∧ w = σ.w ∧ Hp S0 σ0 σ []) ∨ (∃ t, o1 = (.inr t) ∧ e = .ret ∧ ∃ (ρ : Nat → Value) (σ : St), a = fr 49 (updL ρ [(4, (I t))]) ∧ w = σ.w ∧ Hp S0 σ0 σ [])) ?_ ?_
 ·clear h'
  rename _ = some o1 => h
  refine c_blk (wp_loopM _ h (fun s2 a w => ∃ (ρ : Nat → Value) (σ : St), a = fr 49 (updL ρ [(0, (Sl Gr Aq Gs)), (1, (I s2.1)), (5, (I s2.2))]) ∧ w = σ.w ∧ Hp S0 σ0 σ [Ch.ro 0 (Sl Gr Aq Gs) Aq]) ⟨_, σ0, fr_join ⟨rfl, rfl, rfl, trivial⟩, rfl, H.sel' [0] rfl rfl⟩ ?_)
  clear h H
  rintro s2 a w o ⟨ρ, σ3, rfl, rfl, H⟩ h hres
  refine c_seq (c_seq (rg (st (v := (I s2.2)) (rv_move rfl) (st (v := (Sl Gr Aq Gs)) (rv_move rfl) (st (v := (I (Aq.length : Int))) (rv_len Try.underlying26 rfl) (st (v := (B (decide (s2.2 < (Aq.length : Int))))) (rv_lss (a := s2.2) (b := (Aq.length : Int)) rfl rfl) (w_end (q_then ?_))))))))
  refine cd_cond (decide (s2.2 < (Aq.length : Int))) rfl (fun hb4 => ?_) (fun hb4 => ?_)
  ·replace h := bif_t hb4 h
   refine c_skip (q_then (c_seq (c_blk (c_seq (c_seq (rg (st (v := (Sl Gr Aq Gs)) (rv_move rfl) (st (v := (I s2.2)) (rv_move rfl) ?_))))))))
   obtain ⟨x5, hx6, h'⟩ := bind_some h
   clear h
   have h := h'; clear h'
   obtain ⟨b8, o9, hi7, -⟩ := (H.ro 0 rfl).ix hx6
   refine st (v := (pt b8 o9)) (rv_ix Try.underlying26 ti31 rfl rfl hi7) (st (v := (pt b8 (o9 + 0))) (rv_fieldAddr (off := 0) (ft := 3) Try.underlying31 rfl ti3 rfl rfl) ?_)
   have hc10 := ((H.ro 0 rfl).at hx6 hi7).fst.int
   refine st (v := (I x5.1)) (rv_load1 Try.underlying3 rfl rfl hc10) (st (v := (I s2.1)) (rv_move rfl) (st (v := (B (x5.1 != s2.1))) (rv_neq (a := x5.1) (b := s2.1) rfl rfl) (w_end (q_then ?_))))
   refine cd_cond (x5.1 != s2.1) rfl (fun hb11 => ?_) (fun hb11 => ?_)
   ·replace h := bif_t hb11 h
    refine c_seq (rg (st (v := (I (-1))) (rv_assign rfl) (w_end (q_then (c_ret (q_then_r (q_blk_r (q_then_r (q_then_r (q_blk_r ?_))))))))))
    obtain rfl := Option.some.inj h
    obtain rfl := hres _ rfl
    exact .inr (⟨_, rfl, rfl, _, σ3, fr_join ⟨rfl, trivial⟩, rfl, H.sel' [] rfl rfl⟩)
   ·replace h := bif_f hb11 h
    refine c_skip (q_then (c_seq (rg (st (v := (I s2.1)) (rv_move rfl) (st (v := (I (w64 (s2.1 + 1)))) (rv_add (a := s2.1) (b := 1) rfl rfl) (st (v := (I (w64 (s2.1 + 1)))) (rv_assign rfl) (w_end (q_then (c_seq (c_seq (rg ?_)))))))))))
    refine st (v := (Sl Gr Aq Gs)) (rv_move rfl) (st (v := (I s2.2)) (rv_move rfl) ?_)
    obtain ⟨x12, hx13, h'⟩ := bind_some h
    clear h
    have h := h'; clear h'
    obtain ⟨b15, o16, hi14, -⟩ := (H.ro 0 rfl).ix hx13
    refine st (v := (pt b15 o16)) (rv_ix Try.underlying26 ti31 rfl rfl hi14) (st (v := (pt b15 (o16 + 1))) (rv_fieldAddr (off := 1) (ft := 3) Try.underlying31 rfl ti3 rfl rfl) ?_)
    have hc17 := ((H.ro 0 rfl).at hx13 hi14).snd.fst.int
    refine st (v := (I x12.2.1)) (rv_load1 Try.underlying3 rfl rfl hc17) (st (v := (I (w64 (s2.1 + 1)))) (rv_move rfl) (st (v := (B (x12.2.1 != (w64 (s2.1 + 1))))) (rv_neq (a := x12.2.1) (b := (w64 (s2.1 + 1))) rfl rfl) (w_end (q_then ?_))))
    refine cd_cond (x12.2.1 != (w64 (s2.1 + 1))) rfl (fun hb18 => ?_) (fun hb18 => ?_)
    ·replace h := bif_t hb18 h
     refine c_seq (rg (st (v := (I (-1))) (rv_assign rfl) (w_end (q_then (c_ret (q_then_r (q_blk_r (q_then_r (q_then_r (q_blk_r ?_))))))))))
     obtain rfl := Option.some.inj h
     obtain rfl := hres _ rfl
     exact .inr (⟨_, rfl, rfl, _, σ3, fr_join ⟨rfl, trivial⟩, rfl, H.sel' [] rfl rfl⟩)
    ·replace h := bif_f hb18 h
     refine c_skip (q_then (c_seq (rg (st (v := (I (w64 (s2.1 + 1)))) (rv_move rfl) (st (v := (I (w64 ((w64 (s2.1 + 1)) + 1)))) (rv_add (a := (w64 (s2.1 + 1))) (b := 1) rfl rfl) (st (v := (I (w64 ((w64 (s2.1 + 1)) + 1)))) (rv_assign rfl) (w_end (q_then (c_seq (c_seq (rg ?_)))))))))))
     refine st (v := (Sl Gr Aq Gs)) (rv_move rfl) (st (v := (I s2.2)) (rv_move rfl) ?_)
     obtain ⟨x19, hx20, h'⟩ := bind_some h
     clear h
     have h := h'; clear h'
     obtain ⟨b22, o23, hi21, -⟩ := (H.ro 0 rfl).ix hx20
     refine st (v := (pt b22 o23)) (rv_ix Try.underlying26 ti31 rfl rfl hi21) (st (v := (pt b22 (o23 + 2))) (rv_fieldAddr (off := 2) (ft := 3) Try.underlying31 rfl ti3 rfl rfl) ?_)
     have hc24 := ((H.ro 0 rfl).at hx20 hi21).snd.snd.fst.int
     refine st (v := (I x19.2.2.1)) (rv_load1 Try.underlying3 rfl rfl hc24) (st (v := (I (w64 ((w64 (s2.1 + 1)) + 1)))) (rv_move rfl) (st (v := (B (x19.2.2.1 != (w64 ((w64 (s2.1 + 1)) + 1))))) (rv_neq (a := x19.2.2.1) (b := (w64 ((w64 (s2.1 + 1)) + 1))) rfl rfl) (w_end (q_then ?_))))
     refine cd_cond (x19.2.2.1 != (w64 ((w64 (s2.1 + 1)) + 1))) rfl (fun hb25 => ?_) (fun hb25 => ?_)
     ·replace h := bif_t hb25 h
      refine c_seq (rg (st (v := (I (-1))) (rv_assign rfl) (w_end (q_then (c_ret (q_then_r (q_blk_r (q_then_r (q_then_r (q_blk_r ?_))))))))))
      obtain rfl := Option.some.inj h
      obtain rfl := hres _ rfl
      exact .inr (⟨_, rfl, rfl, _, σ3, fr_join ⟨rfl, trivial⟩, rfl, H.sel' [] rfl rfl⟩)
     ·replace h := bif_f hb25 h
      refine c_skip (q_then (c_seq (rg (st (v := (I (w64 ((w64 (s2.1 + 1)) + 1)))) (rv_move rfl) (st (v := (I (w64 ((w64 ((w64 (s2.1 + 1)) + 1)) + 1)))) (rv_add (a := (w64 ((w64 (s2.1 + 1)) + 1))) (b := 1) rfl rfl) (st (v := (I (w64 ((w64 ((w64 (s2.1 + 1)) + 1)) + 1)))) (rv_assign rfl) (w_end (q_then (c_seq (c_seq (rg ?_)))))))))))
      refine st (v := (Sl Gr Aq Gs)) (rv_move rfl) (st (v := (I s2.2)) (rv_move rfl) ?_)
      obtain ⟨x26, hx27, h'⟩ := bind_some h
      clear h
      have h := h'; clear h'
      obtain ⟨b29, o30, hi28, -⟩ := (H.ro 0 rfl).ix hx27
      refine st (v := (pt b29 o30)) (rv_ix Try.underlying26 ti31 rfl rfl hi28) (st (v := (pt b29 (o30 + 3))) (rv_fieldAddr (off := 3) (ft := 3) Try.underlying31 rfl ti3 rfl rfl) ?_)
      have hc31 := ((H.ro 0 rfl).at hx27 hi28).snd.snd.snd.int
      refine st (v := (I x26.2.2.2)) (rv_load1 Try.underlying3 rfl rfl hc31) (st (v := (I (w64 ((w64 ((w64 (s2.1 + 1)) + 1)) + 1)))) (rv_move rfl) (st (v := (B (x26.2.2.2 != (w64 ((w64 ((w64 (s2.1 + 1)) + 1)) + 1))))) (rv_neq (a := x26.2.2.2) (b := (w64 ((w64 ((w64 (s2.1 + 1)) + 1)) + 1))) rfl rfl) (w_end (q_then ?_))))
      refine cd_cond (x26.2.2.2 != (w64 ((w64 ((w64 (s2.1 + 1)) + 1)) + 1))) rfl (fun hb32 => ?_) (fun hb32 => ?_)
      ·replace h := bif_t hb32 h
       refine c_seq (rg (st (v := (I (-1))) (rv_assign rfl) (w_end (q_then (c_ret (q_then_r (q_blk_r (q_then_r (q_then_r (q_blk_r ?_))))))))))
       obtain rfl := Option.some.inj h
       obtain rfl := hres _ rfl
       exact .inr (⟨_, rfl, rfl, _, σ3, fr_join ⟨rfl, trivial⟩, rfl, H.sel' [] rfl rfl⟩)
      ·replace h := bif_f hb32 h
       refine c_skip (q_then (rg (st (v := (I (w64 ((w64 ((w64 (s2.1 + 1)) + 1)) + 1)))) (rv_move rfl) (st (v := (I (w64 ((w64 ((w64 ((w64 (s2.1 + 1)) + 1)) + 1)) + 1)))) (rv_add (a := (w64 ((w64 ((w64 (s2.1 + 1)) + 1)) + 1))) (b := 1) rfl rfl) (st (v := (I (w64 ((w64 ((w64 ((w64 (s2.1 + 1)) + 1)) + 1)) + 1)))) (rv_assign rfl) (w_end (q_blk (q_then (rg (st (v := (I s2.2)) (rv_move rfl) (st (v := (I (w64 (s2.2 + 1)))) (rv_add (a := s2.2) (b := 1) rfl rfl) ?_)))))))))))
       refine st (v := (I (w64 (s2.2 + 1)))) (rv_assign rfl) (w_end (q_then ?_))
       obtain rfl := Option.some.inj h
       exact ⟨_, rfl, _, σ3, fr_join ⟨rfl, rfl, rfl, trivial⟩, rfl, H.sel' [0] rfl rfl⟩
  ·replace h := bif_f hb4 h
   refine c_exit (q_then_x (q_then_x (q_blk_hit ?_)))
   obtain rfl := Option.some.inj h
   obtain rfl := hres _ rfl
   exact .inl ⟨_, rfl, rfl, _, σ3, fr_join ⟨rfl, trivial⟩, rfl, H.sel' [] rfl rfl⟩
 ·clear hj
  have h := h'
  clear h' H
  rintro e a w (⟨t33, rfl, rfl, ρ, σ34, rfl, rfl, H⟩ | ⟨t35, rfl, rfl, ρ, σ36, rfl, rfl, H⟩)
  ·replace h := selim_l h
   refine q_then (c_seq (rg (st (v := (I t33)) (rv_move rfl) (st (v := (I t33)) (rv_assign rfl) (w_end (q_then (c_ret ?_)))))))
   obtain rfl := Option.some.inj h
   exact fin_ret (v := (I t33)) (results_ok Try.results31 (res_tmp (v := (I t33)) rfl res_nil) rfl) ⟨rfl, rfl⟩ (H.sel' [] rfl rfl)
  ·replace h := selim_r h
   refine q_then_r ?_
   obtain rfl := Option.some.inj h
   exact fin_ret (v := (I t35)) (results_ok Try.results31 (res_tmp (v := (I t35)) rfl res_nil) rfl) ⟨rfl, rfl⟩ (H.sel' [] rfl rfl)

theorem c_laws_FnExactBuildTree {Ha : List (Int × (List Int) × Int)} {Hc : Int} {Hd : Option Addr} {He : Nat} {r : Bool} (h : M.laws_FnExactBuildTree Ha Hc = some r) :
    Cal2 Try.prog 9 [(Sl Hd Ha He), (I Hc)] [Ch.ro 0 (Sl Hd Ha He) Ha] (fun n0 v L => v = (B r) ∧ L = []) := by
 refine cal2 (n := 74) Try.func9 rfl rfl rfl rfl ?_
 intro S0 σ0 n0 hn0 H
 unfold M.laws_FnExactBuildTree at h
 refine c_seq (rg (st (v := (B false)) (rv_assign rfl) (w_end (q_then (c_seq (rg (st (v := (I 1048576)) (rv_assign rfl) (w_end (q_then (c_seq (rg ?_)))))))))))
 refine st (v := (Sl Hd Ha He)) (rv_move rfl) (st (v := (I 1048576)) (rv_move rfl) ?_)
 obtain ⟨r1, hx2, h'⟩ := bind_some h
 clear h
 have h := h'; clear h'
 have hc3 := c_laws_szItemS (Gr := Hd) (Gs := He) hx2
 refine st_call (cx_call hc3 (ent_f hc3.fn rfl) hn0 (H.sel' [0, 0] rfl rfl : Hp S0 σ0 _ ([_] ++ _))) wn ?_
 rintro _ σ4 ⟨_, ⟨rfl, rfl⟩, H, -⟩
 replace H : Hp _ _ _ [_] := H
 refine st (v := (I r1)) (rv_assign rfl) (w_end (q_then (c_seq (c_seq (rg (st (v := (I r1)) (rv_move rfl) (st (v := (B (decide (r1 < 0)))) (rv_lss (a := r1) (b := 0) rfl rfl) (w_end (q_then ?_)))))))))
 refine cd_cond (decide (r1 < 0)) rfl (fun hb5 => ?_) (fun hb5 => ?_)
 ·replace h := bif_t hb5 h
  refine c_seq (rg (st (v := (B true)) (rv_assign rfl) (w_end (q_then (c_ret (q_then_r ?_))))))
  obtain rfl := Option.some.inj h
  exact fin_ret (v := (B true)) (results_ok Try.results9 (res_tmp (v := (B true)) rfl res_nil) rfl) ⟨rfl, rfl⟩ (H.sel' [] rfl rfl)
 ·replace h := bif_f hb5 h
  refine c_skip (q_then (c_seq (rg (st (v := (Sl Hd Ha He)) (rv_move rfl) ?_))))
  obtain ⟨r6, hx7, h'⟩ := bind_some h
  clear h
  have h := h'; clear h'
  have hc8 := c_laws_toItemS (Gr := Hd) (Gs := He) hx7
  refine st_call (cx_call hc8 (ent_f hc8.fn rfl) hn0 (H.sel' [0, 0] rfl rfl : Hp S0 σ0 _ ([_] ++ _))) wn ?_
  rintro _ σ13 ⟨_, ⟨a9, c10, K11, rfl, rfl, hK12⟩, H, -⟩
  replace H : Hp _ _ _ [_, _] := H
  refine st (v := (I Hc)) (rv_move rfl) ?_
  obtain ⟨r14, hx15, h'⟩ := bind_some h
  clear h
  have h := h'; clear h'
  have hc16 := c_spec_BuildTree (Aj := a9) (Ak := c10) hx15
  have hle := Nat.le_trans hn0 H.size
  refine st_call (cx_lend (Loan.lendB hK12.lends Loan.nil) hc16 (ent_f hc16.fn rfl) (show Hp S0 σ0 _ ([Ch.big K11] ++ ([] ++ [Ch.ro 0 (Sl Hd Ha He) Ha])) from (H.sel' [0, 1] rfl rfl)) (by rintro _ _ _ ⟨_, _, rfl, rfl⟩; exact ⟨Ab.ownSc, trivial⟩)) wn ?_
  rintro _ σ19 ⟨_, ⟨a17, c18, rfl, rfl⟩, H, -, -⟩
  replace H : Hp _ _ _ [_, _, _] := H
  replace H := H.ownLow 0 0 n0 rfl (Nat.le_refl _) hle
  clear hle
  replace H : Hp _ _ _ [_, _, _] := H
  refine st (v := (Sl a17 r14 c18)) (rv_assign rfl) (w_end (q_then (c_seq (rg (st (v := (Sl Hd Ha He)) (rv_move rfl) ?_)))))
  obtain ⟨r20, hx21, h'⟩ := bind_some h
  clear h
  have h := h'; clear h'
  have hc22 := c_laws_toItemS (Gr := Hd) (Gs := He) hx21
  refine st_call (cx_call hc22 (ent_f hc22.fn rfl) hn0 (H.sel' [2, 0, 1, 2] rfl rfl : Hp S0 σ0 _ ([_] ++ _))) wn ?_
  rintro _ σ27 ⟨_, ⟨a23, c24, K25, rfl, rfl, hK26⟩, H, -⟩
  replace H : Hp _ _ _ [_, _, _, _] := H
  refine st (v := (Sl a23 r20 c24)) (rv_assign rfl) (w_end (q_then (c_seq (rg (st (v := (Sl a23 r20 c24)) (rv_move rfl) (st (v := (I Hc)) (rv_move rfl) ?_))))))
  obtain ⟨r28, hx29, h'⟩ := bind_some h
  clear h
  have h := h'; clear h'
  have hc30 := c_impl_BuildTree (Aj := a23) (Ak := c24) hx29
  have hle := Nat.le_trans hn0 H.size
  refine st_call (cx_lend (Loan.lendB hK26.lends Loan.nil) hc30 (ent_f hc30.fn rfl) (show Hp S0 σ0 _ ([Ch.big K25] ++ ([] ++ [Ch.own 0 n0 (Sl a17 r14 c18) r14, Ch.big K11, Ch.ro 0 (Sl Hd Ha He) Ha])) from (H.sel' [0, 1, 2, 3] rfl rfl)) (by rintro _ _ _ ⟨_, _, rfl, rfl⟩; exact ⟨Ab.ownSc, trivial⟩)) wn ?_
  rintro _ σ33 ⟨_, ⟨a31, c32, rfl, rfl⟩, H, -, -⟩
  replace H : Hp _ _ _ [_, _, _, _, _] := H
  replace H := H.ownLow 0 0 n0 rfl (Nat.le_refl _) hle
  clear hle
  replace H : Hp _ _ _ [_, _, _, _, _] := H
  refine st (v := (Sl a31 r28 c32)) (rv_assign rfl) (w_end (q_then (c_seq (c_seq (rg (st (v := (Sl a31 r28 c32)) (rv_move rfl) (st (v := (Sl a17 r14 c18)) (rv_move rfl) ?_)))))))
  obtain ⟨r34, hx35, h'⟩ := bind_some h
  clear h
  have h := h'; clear h'
  have hc36 := c_laws_eqNodeS (Gr := a31) (Gs := c32) (Gv := a17) (Gw := c18) hx35
  have hle := Nat.le_trans hn0 H.size
  refine st_call (cx_lend (Loan.lend (Loan.lend Loan.nil)) hc36 (ent_f hc36.fn rfl) (show Hp S0 σ0 _ ([Ch.own 0 n0 (Sl a31 r28 c32) r28, Ch.own 0 n0 (Sl a17 r14 c18) r14] ++ ([] ++ [Ch.big K25, Ch.big K11, Ch.ro 0 (Sl Hd Ha He) Ha])) from (H.sel' [0, 2, 1, 3, 4] rfl rfl)) (by rintro _ _ _ ⟨rfl, rfl⟩; exact trivial)) wn ?_
  rintro _ σ37 ⟨_, ⟨rfl, rfl⟩, H, -, -⟩
  replace H : Hp _ _ _ [_, _, _, _, _] := H
  clear hle
  replace H : Hp _ _ _ [_, _, _, _, _] := H
  refine st (v := (B (!r34))) (rv_not rfl) (w_end (q_then ?_))
  refine cd_cond (!r34) rfl (fun hb38 => ?_) (fun hb38 => ?_)
  ·replace h := bif_t hb38 h
   refine c_seq (rg (st (v := (B false)) (rv_assign rfl) (w_end (q_then (c_ret (q_then_r ?_))))))
   obtain rfl := Option.some.inj h
   exact fin_ret (v := (B false)) (results_ok Try.results9 (res_tmp (v := (B false)) rfl res_nil) rfl) ⟨rfl, rfl⟩ (H.sel' [] rfl rfl)
  ·replace h := bif_f hb38 h
   refine c_skip (q_then (c_seq (c_seq (rg (st (v := (Sl a23 r20 c24)) (rv_move rfl) (st (v := (Sl Hd Ha He)) (rv_move rfl) ?_))))))
   obtain ⟨r39, hx40, h'⟩ := bind_some h
   clear h
   have h := h'; clear h'
   have hc41 := c_laws_toItemS (Gr := Hd) (Gs := He) hx40
   refine st_call (cx_call hc41 (ent_f hc41.fn rfl) hn0 (H.sel' [4, 0, 1, 2, 3, 4] rfl rfl : Hp S0 σ0 _ ([_] ++ _))) wn ?_
   rintro _ σ46 ⟨_, ⟨a42, c43, K44, rfl, rfl, hK45⟩, H, -⟩
   replace H : Hp _ _ _ [_, _, _, _, _, _] := H
   obtain ⟨r47, hx48, h'⟩ := bind_some h
   clear h
   have h := h'; clear h'
   have hc49 := c_laws_eqItemS (Gr := a23) (Gs := c24) (Gv := a42) (Gw := c43) hx48
   have hle := Nat.le_trans hn0 H.size
   refine st_call (cx_lend (Loan.lendB hK26.lends (Loan.lendB hK45.lends Loan.nil)) hc49 (ent_f hc49.fn rfl) (show Hp S0 σ0 _ ([Ch.big K25, Ch.big K44] ++ ([] ++ [Ch.own 0 n0 (Sl a31 r28 c32) r28, Ch.own 0 n0 (Sl a17 r14 c18) r14, Ch.big K11, Ch.ro 0 (Sl Hd Ha He) Ha])) from (H.sel' [3, 0, 1, 2, 4, 5] rfl rfl)) (by rintro _ _ _ ⟨rfl, rfl⟩; exact trivial)) wn ?_
   rintro _ σ50 ⟨_, ⟨rfl, rfl⟩, H, -, -⟩
   replace H : Hp _ _ _ [_, _, _, _, _, _] := H
   clear hle
   replace H : Hp _ _ _ [_, _, _, _, _, _] := H
   refine st (v := (B (!r47))) (rv_not rfl) (w_end (q_then ?_))
   refine cd_cond (!r47) rfl (fun hb51 => ?_) (fun hb51 => ?_)
   ·replace h := bif_t hb51 h
    refine c_seq (rg (st (v := (B false)) (rv_assign rfl) (w_end (q_then (c_ret (q_then_r ?_))))))
    obtain rfl := Option.some.inj h
    exact fin_ret (v := (B false)) (results_ok Try.results9 (res_tmp (v := (B false)) rfl res_nil) rfl) ⟨rfl, rfl⟩ (H.sel' [] rfl rfl)
   ·replace h := bif_f hb51 h
    refine c_skip (q_then (c_seq (rg (st (v := (I 1)) (rv_assign rfl) (w_end (q_then (c_seq (rg (st (v := (Sl a23 r20 c24)) (rv_move rfl) (st (v := (I 1)) (rv_move rfl) ?_))))))))))
    obtain ⟨r52, hx53, h'⟩ := bind_some h
    clear h
    have h := h'; clear h'
    have hc54 := c_laws_markItemS (Gr := a23) (Gs := c24) (hK := hK26) hx53
    refine st_call (cx_call hc54 (ent_f hc54.fn rfl) hn0 (H.sel' [0, 1, 2, 3, 4, 5] rfl rfl : Hp S0 σ0 _ ([_] ++ _))) wn ?_
    rintro _ σ55 ⟨_, ⟨rfl, rfl⟩, H, -⟩
    replace H : Hp _ _ _ [_, _, _, _, _] := H
    refine st (v := (I r52)) (rv_assign rfl) (w_end (q_then (c_seq (c_seq ?_))))
    obtain ⟨o56, hj, h'⟩ := bind_some h
    clear h
    refine c_cut (fun e a w => e = .normal ∧ ∃ (ρ : Nat → Value) (σ : St), a = fr 74 (updL ρ [(0, (Sl Hd Ha He)), (1, (I Hc)), (6, (Sl a17 r14 c18)), (8, (Sl a31 r28 c32)), (46, (B o56))]) ∧ w = σ.w ∧ Hp S0 σ0 σ [Ch.ro 0 (Sl Hd Ha He) Ha, Ch.own 0 n0 (Sl a17 r14 c18) r14, Ch.own 0 n0 (Sl a31 r28 c32) r28]) ?_ ?_
    ·clear h'
     rename _ = some o56 => h
     refine rg (st (v := (I r52)) (rv_move rfl) (st (v := (B (decide (r52 < 0)))) (rv_lss (a := r52) (b := 0) rfl rfl) (st (v := (B (decide (r52 < 0)))) (rv_move rfl) ?_)))
     rcases Bool.eq_false_or_eq_true (decide (r52 < 0)) with hb57 | hb57
     ·replace h := bif_t hb57 h
      refine st_skip (congrArg some hb57) (st_skip (congrArg some hb57) (st_skip (congrArg some hb57) (st_skip (congrArg some hb57) (st (v := (B true)) (rv_pick_t (congrArg B hb57) rfl) (w_end ?_)))))
      obtain rfl := Option.some.inj h
      exact ⟨rfl, _, σ55, fr_join ⟨rfl, rfl, rfl, rfl, rfl, trivial⟩, rfl, H.sel' [4, 2, 1] rfl rfl⟩
     ·replace h := bif_f hb57 h
      refine st_g (v := (Sl a31 r28 c32)) (congrArg some hb57) (rv_move rfl) (st_g (v := (Sl a17 r14 c18)) (congrArg some hb57) (rv_move rfl) ?_)
      obtain ⟨r58, hx59, h'⟩ := bind_some h
      clear h
      have h := h'; clear h'
      have hc60 := c_laws_eqNodeS (Gr := a31) (Gs := c32) (Gv := a17) (Gw := c18) hx59
      have hle := Nat.le_trans hn0 H.size
      refine st_call (cx_lend (Loan.lend (Loan.lend Loan.nil)) hc60 (ent_f hc60.fn rfl) (show Hp S0 σ0 _ ([Ch.own 0 n0 (Sl a31 r28 c32) r28, Ch.own 0 n0 (Sl a17 r14 c18) r14] ++ ([] ++ [Ch.big K44, Ch.big K11, Ch.ro 0 (Sl Hd Ha He) Ha])) from (H.sel' [1, 2, 0, 3, 4] rfl rfl)) (by rintro _ _ _ ⟨rfl, rfl⟩; exact trivial)) (wanted_yes rfl (by exact (congrArg some hb57))) ?_
      rintro _ σ61 ⟨_, ⟨rfl, rfl⟩, H, -, -⟩
      replace H : Hp _ _ _ [_, _, _, _, _] := H
      clear hle
      replace H : Hp _ _ _ [_, _, _, _, _] := H
      refine st_g (v := (B (!r58))) (congrArg some hb57) (rv_not rfl) (st (v := (B (!r58))) (rv_pick_f (congrArg B hb57) rfl) (w_end ?_))
      obtain rfl := Option.some.inj h
      exact ⟨rfl, _, σ61, fr_join ⟨rfl, rfl, rfl, rfl, rfl, trivial⟩, rfl, H.sel' [4, 1, 0] rfl rfl⟩
    ·clear hj
     have h := h'
     clear h' H
     rintro e a w ⟨rfl, ρ, σ62, rfl, rfl, H⟩
     refine q_then ?_
     refine cd_cond o56 rfl (fun hb63 => ?_) (fun hb63 => ?_)
     ·replace h := bif_t hb63 h
      refine c_seq (rg (st (v := (B false)) (rv_assign rfl) (w_end (q_then (c_ret (q_then_r ?_))))))
      obtain rfl := Option.some.inj h
      exact fin_ret (v := (B false)) (results_ok Try.results9 (res_tmp (v := (B false)) rfl res_nil) rfl) ⟨rfl, rfl⟩ (H.sel' [] rfl rfl)
     ·replace h := bif_f hb63 h
      refine c_skip (q_then (c_seq (rg (st (v := (I 1)) (rv_assign rfl) (w_end (q_then (c_seq (rg (st (v := (Sl a31 r28 c32)) (rv_move rfl) (st (v := (I 1)) (rv_move rfl) ?_))))))))))
      replace H := H.ownLow 2 0 0 rfl (Nat.zero_le _) (Nat.zero_le _)
      obtain ⟨r64, hx65, h'⟩ := bind_some h
      clear h
      have h := h'; clear h'
      have hc66 := c_laws_markNodeS (Gr := a31) (Gs := c32) hx65
      refine st_call (cx_call hc66 (ent_f hc66.fn rfl) hn0 (H.sel' [0, 1, 2] rfl rfl : Hp S0 σ0 _ ([_] ++ _))) wn ?_
      rintro _ σ68 ⟨_, ⟨rfl, rfl, hn67⟩, H, -⟩
      replace H : Hp _ _ _ [_, _, _] := H
      have hsl : (Sl a31 r28 c32) = (Sl a31 r64.2 c32) := sl_len hn67.symm
      try rw [hsl]
      try rw [hsl] at H
      clear hsl
      refine st (v := (I r64.1)) (rv_assign rfl) (w_end (q_then (c_seq (rg (st (v := (I 1)) (rv_assign rfl) (w_end (q_then (c_seq (rg (st (v := (Sl a31 r64.2 c32)) (rv_move rfl) (st (v := (I 1)) (rv_move rfl) ?_)))))))))))
      obtain ⟨r69, hx70, h'⟩ := bind_some h
      clear h
      have h := h'; clear h'
      have hc71 := c_laws_heldNodeS (Gr := a31) (Gs := c32) hx70
      have hle := Nat.le_trans hn0 H.size
      refine st_call (cx_lend (Loan.lend Loan.nil) hc71 (ent_f hc71.fn rfl) (show Hp S0 σ0 _ ([Ch.own 0 0 (Sl a31 r64.2 c32) r64.2] ++ ([] ++ [Ch.ro 0 (Sl Hd Ha He) Ha, Ch.own 0 n0 (Sl a17 r14 c18) r14])) from (H.sel' [0, 1, 2] rfl rfl)) (by rintro _ _ _ ⟨rfl, rfl⟩; exact trivial)) wn ?_
      rintro _ σ72 ⟨_, ⟨rfl, rfl⟩, H, -, -⟩
      replace H : Hp _ _ _ [_, _, _] := H
      clear hle
      replace H : Hp _ _ _ [_, _, _] := H
      refine st (v := (I r69)) (rv_assign rfl) (w_end (q_then (c_seq (c_seq (rg (st (v := (I r69)) (rv_move rfl) (st (v := (B (decide (r69 < 0)))) (rv_lss (a := r69) (b := 0) rfl rfl) (w_end (q_then ?_)))))))))
      refine cd_cond (decide (r69 < 0)) rfl (fun hb73 => ?_) (fun hb73 => ?_)
      ·replace h := bif_t hb73 h
       refine c_seq (rg (st (v := (B false)) (rv_assign rfl) (w_end (q_then (c_ret (q_then_r ?_))))))
       obtain rfl := Option.some.inj h
       exact fin_ret (v := (B false)) (results_ok Try.results9 (res_tmp (v := (B false)) rfl res_nil) rfl) ⟨rfl, rfl⟩ (H.sel' [] rfl rfl)
      ·replace h := bif_f hb73 h
       refine c_skip (q_then (c_seq (c_seq (rg (st (v := (I r69)) (rv_move rfl) (st (v := (I r64.1)) (rv_move rfl) (st (v := (B (r69 != r64.1))) (rv_neq (a := r69) (b := r64.1) rfl rfl) (w_end (q_then ?_)))))))))
       refine cd_cond (r69 != r64.1) rfl (fun hb74 => ?_) (fun hb74 => ?_)
       ·replace h := bif_t hb74 h
        refine c_seq (rg (st (v := (B false)) (rv_assign rfl) (w_end (q_then (c_ret (q_then_r ?_))))))
        obtain rfl := Option.some.inj h
        exact fin_ret (v := (B false)) (results_ok Try.results9 (res_tmp (v := (B false)) rfl res_nil) rfl) ⟨rfl, rfl⟩ (H.sel' [] rfl rfl)
       ·replace h := bif_f hb74 h
        refine c_skip (q_then (c_seq (rg (st (v := (Sl Hd Ha He)) (rv_move rfl) ?_))))
        obtain ⟨r75, hx76, h'⟩ := bind_some h
        clear h
        have h := h'; clear h'
        have hc77 := c_laws_toItemS (Gr := Hd) (Gs := He) hx76
        refine st_call (cx_call hc77 (ent_f hc77.fn rfl) hn0 (H.sel' [1, 0, 1, 2] rfl rfl : Hp S0 σ0 _ ([_] ++ _))) wn ?_
        rintro _ σ82 ⟨_, ⟨a78, c79, K80, rfl, rfl, hK81⟩, H, -⟩
        replace H : Hp _ _ _ [_, _, _, _] := H
        refine st (v := (I Hc)) (rv_move rfl) ?_
        obtain ⟨r83, hx84, h'⟩ := bind_some h
        clear h
        have h := h'; clear h'
        have hc85 := c_impl_BuildTree (Aj := a78) (Ak := c79) hx84
        have hle := Nat.le_trans hn0 H.size
        refine st_call (cx_lend (Loan.lendB hK81.lends Loan.nil) hc85 (ent_f hc85.fn rfl) (show Hp S0 σ0 _ ([Ch.big K80] ++ ([] ++ [Ch.own 0 0 (Sl a31 r64.2 c32) r64.2, Ch.ro 0 (Sl Hd Ha He) Ha, Ch.own 0 n0 (Sl a17 r14 c18) r14])) from (H.sel' [0, 1, 2, 3] rfl rfl)) (by rintro _ _ _ ⟨_, _, rfl, rfl⟩; exact ⟨Ab.ownSc, trivial⟩)) wn ?_
        rintro _ σ88 ⟨_, ⟨a86, c87, rfl, rfl⟩, H, -, -⟩
        replace H : Hp _ _ _ [_, _, _, _, _] := H
        replace H := H.ownLow 0 0 n0 rfl (Nat.le_refl _) hle
        clear hle
        replace H : Hp _ _ _ [_, _, _, _, _] := H
        refine st (v := (Sl a86 r83 c87)) (rv_assign rfl) (w_end (q_then (c_seq (c_seq (rg (st (v := (Sl a86 r83 c87)) (rv_move rfl) (st (v := (Sl a17 r14 c18)) (rv_move rfl) ?_)))))))
        replace H := H.ownLow 0 0 0 rfl (Nat.le_refl _) (Nat.zero_le _)
        obtain ⟨σ89, hw90, H, -⟩ := H.pub 0 rfl (Nat.le_refl _)
        rw [← hw90]; clear hw90
        replace H := H.ownLow 4 0 0 rfl (Nat.le_refl _) (Nat.zero_le _)
        obtain ⟨σ91, hw92, H, -⟩ := H.pub 0 rfl (Nat.le_refl _)
        rw [← hw92]; clear hw92
        obtain ⟨r93, hx94, h'⟩ := bind_some h
        clear h
        have h := h'; clear h'
        have hc95 := c_laws_eqNodeS (Gr := a86) (Gs := c87) (Gv := a17) (Gw := c18) hx94
        refine st_call (cx_call hc95 (ent_f hc95.fn rfl) hn0 (H.sel' [1, 0, 0, 1, 2, 3, 4] rfl rfl : Hp S0 σ0 _ ([_, _] ++ _))) wn ?_
        rintro _ σ96 ⟨_, ⟨rfl, rfl⟩, H, -⟩
        replace H : Hp _ _ _ [_, _, _, _, _] := H
        refine st (v := (B (!r93))) (rv_not rfl) (w_end (q_then ?_))
        refine cd_cond (!r93) rfl (fun hb97 => ?_) (fun hb97 => ?_)
        ·replace h := bif_t hb97 h
         refine c_seq (rg (st (v := (B false)) (rv_assign rfl) (w_end (q_then (c_ret (q_then_r ?_))))))
         obtain rfl := Option.some.inj h
         exact fin_ret (v := (B false)) (results_ok Try.results9 (res_tmp (v := (B false)) rfl res_nil) rfl) ⟨rfl, rfl⟩ (H.sel' [] rfl rfl)
        ·replace h := bif_f hb97 h
         refine c_skip (q_then (c_seq (rg (st (v := (I 1)) (rv_assign rfl) (w_end (q_then (c_seq (rg (st (v := (Sl a31 r64.2 c32)) (rv_move rfl) (st (v := (I 1)) (rv_move rfl) ?_))))))))))
         obtain ⟨σ98, hw99, H, -⟩ := H.pub 3 rfl (Nat.le_refl _)
         rw [← hw99]; clear hw99
         obtain ⟨r100, hx101, h'⟩ := bind_some h
         clear h
         have h := h'; clear h'
         have hc102 := c_laws_heldNodeS (Gr := a31) (Gs := c32) hx101
         refine st_call (cx_call hc102 (ent_f hc102.fn rfl) hn0 (H.sel' [0, 0, 1, 2, 3, 4] rfl rfl : Hp S0 σ0 _ ([_] ++ _))) wn ?_
         rintro _ σ103 ⟨_, ⟨rfl, rfl⟩, H, -⟩
         replace H : Hp _ _ _ [_, _, _, _, _] := H
         refine st (v := (I r100)) (rv_assign rfl) (w_end (q_then (c_seq (c_seq (rg (st (v := (I r100)) (rv_move rfl) (st (v := (B (decide (r100 < 0)))) (rv_lss (a := r100) (b := 0) rfl rfl) (w_end (q_then ?_)))))))))
         refine cd_cond (decide (r100 < 0)) rfl (fun hb104 => ?_) (fun hb104 => ?_)
         ·replace h := bif_t hb104 h
          refine c_seq (rg (st (v := (B false)) (rv_assign rfl) (w_end (q_then (c_ret (q_then_r ?_))))))
          obtain rfl := Option.some.inj h
          exact fin_ret (v := (B false)) (results_ok Try.results9 (res_tmp (v := (B false)) rfl res_nil) rfl) ⟨rfl, rfl⟩ (H.sel' [] rfl rfl)
         ·replace h := bif_f hb104 h
          refine c_skip (q_then (c_seq (c_seq (rg (st (v := (I r100)) (rv_move rfl) (st (v := (I r64.1)) (rv_move rfl) (st (v := (B (r100 != r64.1))) (rv_neq (a := r100) (b := r64.1) rfl rfl) (w_end (q_then ?_)))))))))
          refine cd_cond (r100 != r64.1) rfl (fun hb105 => ?_) (fun hb105 => ?_)
          ·replace h := bif_t hb105 h
           refine c_seq (rg (st (v := (B false)) (rv_assign rfl) (w_end (q_then (c_ret (q_then_r ?_))))))
           obtain rfl := Option.some.inj h
           exact fin_ret (v := (B false)) (results_ok Try.results9 (res_tmp (v := (B false)) rfl res_nil) rfl) ⟨rfl, rfl⟩ (H.sel' [] rfl rfl)
          ·replace h := bif_f hb105 h
           refine c_skip (q_then (c_seq (rg (st (v := (B true)) (rv_assign rfl) (w_end (q_then (c_ret ?_)))))))
           obtain rfl := Option.some.inj h
           exact fin_ret (v := (B true)) (results_ok Try.results9 (res_tmp (v := (B true)) rfl res_nil) rfl) ⟨rfl, rfl⟩ (H.sel' [] rfl rfl)

end Go.Vs
