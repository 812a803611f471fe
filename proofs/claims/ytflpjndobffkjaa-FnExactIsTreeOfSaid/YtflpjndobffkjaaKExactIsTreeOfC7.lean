/- The functions compute what their models say. -/
import Derived.Test.YtflpjndobffkjaaKExactIsTreeOfC6
set_option linter.unusedVariables false
set_option linter.unusedSimpArgs false
set_option maxRecDepth 20000
namespace Go.Vs
open Go Go.Proofs
attribute [local irreducible] Code.wp Code.wpIn wpList wpListIn wpQuiet Calls CallsIn

theorem c_laws_toNodeS {Aq : List (Int × Int × Int × Int)} {Gw : Option Addr} {Gx : Nat} {r : (List (Int × Int × Int × Int))} (h : M.laws_toNodeS Aq = some r) :
    Cal2 Try.prog 33 [(Sl Gw Aq Gx)] [Ch.ro 0 (Sl Gw Aq Gx) Aq] (fun n0 v L => ∃ (az1 : Option Addr), ∃ (cz2 : Nat), v = (Sl az1 r cz2) ∧ L = [Ch.own n0 n0 (Sl az1 r cz2) r] ∧ cz2 = r.length) := by
 refine cal2 (n := 23) Try.func33 rfl rfl rfl rfl ?_
 intro S0 σ0 n0 hn0 H
 unfold M.laws_toNodeS at h
 refine c_seq (rg (st (v := (.slice none 0 0)) (rv_assign rfl) (w_end (q_then (c_seq (rg (st (v := (Sl Gw Aq Gx)) (rv_move rfl) (st (v := (I (Aq.length : Int))) (rv_len Try.underlying51 rfl) ?_))))))))
 obtain ⟨xs1, hx2, h'⟩ := bind_some h
 clear h
 have h := h'; clear h'
 refine st_ex (ex_make (el := n0) (z0 := ((0, 0, 0, 0) : Int × Int × Int × Int)) (zs := [(I 0), (I 0), (I 0), (I 0)]) H hn0 Try.underlying26 ti31 rfl rfl (⟨[(I 0)], [(I 0), (I 0), (I 0)], rfl, rfl, ⟨[(I 0)], [(I 0), (I 0)], rfl, rfl, ⟨[(I 0)], [(I 0)], rfl, rfl, rfl⟩⟩⟩) (by decide) hx2 rfl rfl) wn ?_
 rintro _ σ6 ⟨b3, c4, rfl, ht5, H, -⟩
 replace ht5 := ht5.trans (gmake_len hx2).symm
 refine st (v := (Sl (some ⟨b3, 0, none⟩) xs1 c4)) (rv_assign rfl) (w_end (q_then (c_seq (c_seq (rg (st (v := (I 0)) (rv_assign rfl) (w_end (q_then ?_))))))))
 obtain ⟨o7, hj, h'⟩ := bind_some h
 clear h
 refine c_cut (fun e a w => e = .normal ∧ ∃ (ρ : Nat → Value) (σ : St), a = fr 23 (updL ρ [(3, (Sl (some ⟨b3, 0, none⟩) o7 c4))]) ∧ w = σ.w ∧ Hp S0 σ0 σ [Ch.own n0 n0 (Sl (some ⟨b3, 0, none⟩) o7 c4) o7] ∧ c4 = o7.length ∧ o7.length = xs1.length) ?_ ?_
 ·clear h'
  rename _ = some o7 => h
  refine c_blk (wp_loopM _ h (fun s8 a w => ∃ (ρ : Nat → Value) (σ : St), a = fr 23 (updL ρ [(0, (Sl Gw Aq Gx)), (3, (Sl (some ⟨b3, 0, none⟩) s8.1 c4)), (4, (I s8.2))]) ∧ w = σ.w ∧ Hp S0 σ0 σ [Ch.ro 0 (Sl Gw Aq Gx) Aq, Ch.own n0 n0 (Sl (some ⟨b3, 0, none⟩) s8.1 c4) s8.1] ∧ c4 = s8.1.length ∧ s8.1.length = xs1.length) ⟨_, σ6, fr_join ⟨rfl, rfl, rfl, trivial⟩, rfl, H.sel' [1, 0] rfl rfl, ht5, rfl⟩ ?_)
  clear h H
  rintro s8 a w o ⟨ρ, σ9, rfl, rfl, H, ht10, hn11⟩ h hres
  refine c_seq (c_seq (rg (st (v := (I s8.2)) (rv_move rfl) (st (v := (Sl Gw Aq Gx)) (rv_move rfl) (st (v := (I (Aq.length : Int))) (rv_len Try.underlying51 rfl) (st (v := (B (decide (s8.2 < (Aq.length : Int))))) (rv_lss (a := s8.2) (b := (Aq.length : Int)) rfl rfl) (w_end (q_then ?_))))))))
  refine cd_cond (decide (s8.2 < (Aq.length : Int))) rfl (fun hb12 => ?_) (fun hb12 => ?_)
  ·replace h := bif_t hb12 h
   refine c_skip (q_then (c_seq (c_blk (rg (st (v := (Sl (some ⟨b3, 0, none⟩) s8.1 c4)) (rv_move rfl) (st (v := (I s8.2)) (rv_move rfl) (st (v := (Sl Gw Aq Gx)) (rv_move rfl) (st (v := (I s8.2)) (rv_move rfl) ?_))))))))
   obtain ⟨x13, hx14, h'⟩ := bind_some h
   clear h
   have h := h'; clear h'
   obtain ⟨b16, o17, hi15, -⟩ := (H.ro 0 rfl).ix hx14
   refine st (v := (pt b16 o17)) (rv_ix Try.underlying51 ti92 rfl rfl hi15) ?_
   obtain ⟨_, ⟨_, _, rfl, rfl, ⟨_, _, rfl, rfl, ⟨_, _, rfl, rfl, rfl⟩⟩⟩, hl18, hc19⟩ := ((H.ro 0 rfl).at hx14 hi15).cells
   refine st (v := (.agg #[(I x13.1), (I x13.2.1), (I x13.2.2.1), (I x13.2.2.2)])) (rv_load Try.underlying92 rfl ti92 rfl hl18 hc19) ?_
   obtain ⟨r20, hx21, h'⟩ := bind_some h
   clear h
   have h := h'; clear h'
   have hc22 := c_laws_toNode hx21
   refine st_call (cx_call hc22 (ent_f hc22.fn rfl) hn0 (H.sel' [0, 1] rfl rfl : Hp S0 σ0 _ ([] ++ _))) wn ?_
   rintro _ σ23 ⟨_, ⟨rfl, rfl⟩, H, -⟩
   replace H : Hp _ _ _ [_, _] := H
   obtain ⟨x24, hx25, h'⟩ := bind_some h
   clear h
   have h := h'; clear h'
   obtain ⟨b27, o28, hi26, -⟩ := (H.own 1 rfl).ix hx25
   refine st (v := (pt b27 o28)) (rv_ix Try.underlying26 ti31 rfl rfl hi26) ?_
   refine st_exS (ex_store_own (e' := (r20.1, r20.2.1, r20.2.2.1, r20.2.2.2)) (vs := [(I r20.1), (I r20.2.1), (I r20.2.2.1), (I r20.2.2.2)]) (k := 0) H (i := 1) rfl ti31 hx25 hi26 rfl rfl rfl rfl rfl (Nat.le_of_ble_eq_true rfl) (by simp [plain]) (by rintro _ ⟨_, _, rfl, rfl, ⟨_, _, rfl, rfl, ⟨_, _, rfl, rfl, rfl⟩⟩⟩; exact ⟨[(I r20.1)], [(I r20.2.1), (I r20.2.2.1), (I r20.2.2.2)], rfl, rfl, ⟨[(I r20.2.1)], [(I r20.2.2.1), (I r20.2.2.2)], rfl, rfl, ⟨[(I r20.2.2.1)], [(I r20.2.2.2)], rfl, rfl, rfl⟩⟩⟩)) wn ?_
   rintro σ29 ⟨H, -⟩
   have hsl : (Sl (some ⟨b3, 0, none⟩) s8.1 c4) = (Sl (some ⟨b3, 0, none⟩) (s8.1.set s8.2.toNat (r20.1, r20.2.1, r20.2.2.1, r20.2.2.2)) c4) := sl_len List.length_set.symm
   rw [hsl]; rw [hsl] at H; clear hsl
   refine w_end (q_blk (q_then (rg (st (v := (I s8.2)) (rv_move rfl) (st (v := (I (w64 (s8.2 + 1)))) (rv_add (a := s8.2) (b := 1) rfl rfl) (st (v := (I (w64 (s8.2 + 1)))) (rv_assign rfl) (w_end (q_then ?_))))))))
   obtain rfl := Option.some.inj h
   exact ⟨_, rfl, _, σ29, fr_join ⟨rfl, rfl, rfl, trivial⟩, rfl, H.sel' [1, 0] rfl rfl, (ht10.trans List.length_set.symm), (List.length_set.trans hn11)⟩
  ·replace h := bif_f hb12 h
   refine c_exit (q_then_x (q_then_x (q_blk_hit ?_)))
   obtain rfl := Option.some.inj h
   obtain rfl := hres _ rfl
   exact ⟨rfl, _, σ9, fr_join ⟨rfl, trivial⟩, rfl, H.sel' [1] rfl rfl, ht10, hn11⟩
 ·clear hj
  have h := h'
  clear h' H
  rintro e a w ⟨rfl, ρ, σ30, rfl, rfl, H, ht31, hn32⟩
  refine q_then (c_seq (rg (st (v := (Sl (some ⟨b3, 0, none⟩) o7 c4)) (rv_move rfl) (st (v := (Sl (some ⟨b3, 0, none⟩) o7 c4)) (rv_assign rfl) (w_end (q_then (c_ret ?_)))))))
  obtain rfl := Option.some.inj h
  exact fin_ret (v := (Sl (some ⟨b3, 0, none⟩) o7 c4)) (results_ok Try.results33 (res_tmp (v := (Sl (some ⟨b3, 0, none⟩) o7 c4)) rfl res_nil) rfl) ⟨(some ⟨b3, 0, none⟩), c4, rfl, rfl, ht31⟩ (H.sel' [0] rfl rfl)

theorem c_laws_FnExactIsTreeOf {Hg : List (Int × Int × Int × Int)} {Hh : List (Int × (List Int) × Int)} {Hi : Int} {Hj : Option Addr} {Hk : Nat} {Hl : Option Addr} {Hm : Nat} {r : Bool} (h : M.laws_FnExactIsTreeOf Hg Hh Hi = some r) :
    Cal2 Try.prog 10 [(Sl Hj Hg Hk), (Sl Hl Hh Hm), (I Hi)] [Ch.ro 0 (Sl Hj Hg Hk) Hg, Ch.ro 0 (Sl Hl Hh Hm) Hh] (fun n0 v L => v = (B r) ∧ L = []) := by
 refine cal2 (n := 49) Try.func10 rfl rfl rfl rfl ?_
 intro S0 σ0 n0 hn0 H
 unfold M.laws_FnExactIsTreeOf at h
 refine c_seq (rg (st (v := (B false)) (rv_assign rfl) (w_end (q_then (c_seq (rg (st (v := (I 1048576)) (rv_assign rfl) (w_end (q_then (c_seq (rg ?_)))))))))))
 refine st (v := (Sl Hj Hg Hk)) (rv_move rfl) (st (v := (I 1048576)) (rv_move rfl) ?_)
 obtain ⟨r1, hx2, h'⟩ := bind_some h
 clear h
 have h := h'; clear h'
 have hc3 := c_laws_szNodeS (Gw := Hj) (Gx := Hk) hx2
 refine st_call (cx_call hc3 (ent_f hc3.fn rfl) hn0 (H.sel' [0, 0, 1] rfl rfl : Hp S0 σ0 _ ([_] ++ _))) wn ?_
 rintro _ σ4 ⟨_, ⟨rfl, rfl⟩, H, -⟩
 replace H : Hp _ _ _ [_, _] := H
 refine st (v := (I r1)) (rv_assign rfl) (w_end (q_then (c_seq (c_seq (rg (st (v := (I r1)) (rv_move rfl) (st (v := (B (decide (r1 < 0)))) (rv_lss (a := r1) (b := 0) rfl rfl) (w_end (q_then ?_)))))))))
 refine cd_cond (decide (r1 < 0)) rfl (fun hb5 => ?_) (fun hb5 => ?_)
 ·replace h := bif_t hb5 h
  refine c_seq (rg (st (v := (B true)) (rv_assign rfl) (w_end (q_then (c_ret (q_then_r ?_))))))
  obtain rfl := Option.some.inj h
  exact fin_ret (v := (B true)) (results_ok Try.results10 (res_tmp (v := (B true)) rfl res_nil) rfl) ⟨rfl, rfl⟩ (H.sel' [] rfl rfl)
 ·replace h := bif_f hb5 h
  refine c_skip (q_then (c_seq (rg (st (v := (Sl Hl Hh Hm)) (rv_move rfl) (st (v := (I r1)) (rv_move rfl) ?_)))))
  obtain ⟨r6, hx7, h'⟩ := bind_some h
  clear h
  have h := h'; clear h'
  have hc8 := c_laws_szItemS (Gw := Hl) (Gx := Hm) hx7
  refine st_call (cx_call hc8 (ent_f hc8.fn rfl) hn0 (H.sel' [1, 0, 1] rfl rfl : Hp S0 σ0 _ ([_] ++ _))) wn ?_
  rintro _ σ9 ⟨_, ⟨rfl, rfl⟩, H, -⟩
  replace H : Hp _ _ _ [_, _] := H
  refine st (v := (I r6)) (rv_assign rfl) (w_end (q_then (c_seq (c_seq (rg (st (v := (I r6)) (rv_move rfl) (st (v := (B (decide (r6 < 0)))) (rv_lss (a := r6) (b := 0) rfl rfl) (w_end (q_then ?_)))))))))
  refine cd_cond (decide (r6 < 0)) rfl (fun hb10 => ?_) (fun hb10 => ?_)
  ·replace h := bif_t hb10 h
   refine c_seq (rg (st (v := (B true)) (rv_assign rfl) (w_end (q_then (c_ret (q_then_r ?_))))))
   obtain rfl := Option.some.inj h
   exact fin_ret (v := (B true)) (results_ok Try.results10 (res_tmp (v := (B true)) rfl res_nil) rfl) ⟨rfl, rfl⟩ (H.sel' [] rfl rfl)
  ·replace h := bif_f hb10 h
   refine c_skip (q_then (c_seq (rg (st (v := (Sl Hj Hg Hk)) (rv_move rfl) ?_))))
   obtain ⟨r11, hx12, h'⟩ := bind_some h
   clear h
   have h := h'; clear h'
   have hc13 := c_laws_toNodeS (Gw := Hj) (Gx := Hk) hx12
   refine st_call (cx_call hc13 (ent_f hc13.fn rfl) hn0 (H.sel' [0, 0, 1] rfl rfl : Hp S0 σ0 _ ([_] ++ _))) wn ?_
   rintro _ σ17 ⟨_, ⟨a14, c15, rfl, rfl, ht16⟩, H, -⟩
   replace H : Hp _ _ _ [_, _, _] := H
   refine st (v := (Sl Hl Hh Hm)) (rv_move rfl) ?_
   obtain ⟨r18, hx19, h'⟩ := bind_some h
   clear h
   have h := h'; clear h'
   have hc20 := c_laws_toItemS (Gw := Hl) (Gx := Hm) hx19
   refine st_call (cx_call hc20 (ent_f hc20.fn rfl) hn0 (H.sel' [2, 0, 1, 2] rfl rfl : Hp S0 σ0 _ ([_] ++ _))) wn ?_
   rintro _ σ24 ⟨_, ⟨a21, c22, rfl, rfl, ht23⟩, H, -⟩
   replace H : Hp _ _ _ [_, _, _, _] := H
   refine st (v := (I Hi)) (rv_move rfl) ?_
   obtain ⟨σ25, hw26, H, -⟩ := H.pub 1 rfl (Nat.le_refl _)
   rw [← hw26]; clear hw26
   obtain ⟨σ27, hw28, H, -⟩ := H.pub 1 rfl (Nat.le_refl _)
   rw [← hw28]; clear hw28
   replace H := H.roLow 1 0 rfl (Nat.zero_le _)
   replace H := H.roLow 1 0 rfl (Nat.zero_le _)
   obtain ⟨r29, hx30, h'⟩ := bind_some h
   clear h
   have h := h'; clear h'
   have hc31 := c_spec_IsTreeOf (Gp := a14) (Gq := c15) (Gr := a21) (Gs := c22) hx30
   refine st_call (cx_call hc31 (ent_f hc31.fn rfl) hn0 (H.sel' [1, 0, 0, 1, 2, 3, 4, 5] rfl rfl : Hp S0 σ0 _ ([_, _] ++ _))) wn ?_
   rintro _ σ32 ⟨_, ⟨rfl, rfl⟩, H, -⟩
   replace H : Hp _ _ _ [_, _, _, _, _, _] := H
   refine st (v := (B r29)) (rv_assign rfl) (w_end (q_then (c_seq (rg (st (v := (Sl Hj Hg Hk)) (rv_move rfl) ?_)))))
   obtain ⟨r33, hx34, h'⟩ := bind_some h
   clear h
   have h := h'; clear h'
   have hc35 := c_laws_toNodeS (Gw := Hj) (Gx := Hk) hx34
   refine st_call (cx_call hc35 (ent_f hc35.fn rfl) hn0 (H.sel' [4, 0, 1, 2, 3, 4, 5] rfl rfl : Hp S0 σ0 _ ([_] ++ _))) wn ?_
   rintro _ σ39 ⟨_, ⟨a36, c37, rfl, rfl, ht38⟩, H, -⟩
   replace H : Hp _ _ _ [_, _, _, _, _, _, _] := H
   refine st (v := (Sl a36 r33 c37)) (rv_assign rfl) (w_end (q_then (c_seq (rg (st (v := (Sl Hl Hh Hm)) (rv_move rfl) ?_)))))
   obtain ⟨r40, hx41, h'⟩ := bind_some h
   clear h
   have h := h'; clear h'
   have hc42 := c_laws_toItemS (Gw := Hl) (Gx := Hm) hx41
   refine st_call (cx_call hc42 (ent_f hc42.fn rfl) hn0 (H.sel' [6, 0, 1, 2, 3, 4, 5, 6] rfl rfl : Hp S0 σ0 _ ([_] ++ _))) wn ?_
   rintro _ σ46 ⟨_, ⟨a43, c44, rfl, rfl, ht45⟩, H, -⟩
   replace H : Hp _ _ _ [_, _, _, _, _, _, _, _] := H
   replace H : Hp S0 σ0 σ46 [Ch.own n0 n0 (Sl a43 r40 c44) r40, Ch.own n0 n0 (Sl a36 r33 c37) r33, Ch.ro 0 (Sl Hj Hg Hk) Hg, Ch.ro 0 (Sl Hl Hh Hm) Hh] := H.sel' [0, 1, 6, 7] rfl rfl
   refine st (v := (Sl a43 r40 c44)) (rv_assign rfl) (w_end (q_then (c_seq (rg (st (v := (Sl a36 r33 c37)) (rv_move rfl) (st (v := (Sl a43 r40 c44)) (rv_move rfl) (st (v := (I Hi)) (rv_move rfl) ?_)))))))
   obtain ⟨r47, hx48, h'⟩ := bind_some h
   clear h
   have h := h'; clear h'
   have hc49 := c_impl_IsTreeOf (Gp := a36) (Gq := c37) (Gr := a43) (Gs := c44) hx48
   have hle := Nat.le_trans hn0 H.size
   refine st_call (cx_lend (Loan.lend (Loan.lend Loan.nil)) hc49 (ent_f hc49.fn rfl) (show Hp S0 σ0 _ ([Ch.own n0 n0 (Sl a36 r33 c37) r33, Ch.own n0 n0 (Sl a43 r40 c44) r40] ++ ([] ++ [Ch.ro 0 (Sl Hj Hg Hk) Hg, Ch.ro 0 (Sl Hl Hh Hm) Hh])) from (H.sel' [1, 0, 2, 3] rfl rfl)) (by rintro _ _ _ ⟨rfl, rfl⟩; exact trivial)) wn ?_
   rintro _ σ50 ⟨_, ⟨rfl, rfl⟩, H, -, -⟩
   replace H : Hp _ _ _ [_, _, _, _] := H
   clear hle
   replace H : Hp _ _ _ [_, _, _, _] := H
   refine st (v := (B r47)) (rv_assign rfl) (w_end (q_then (c_seq (c_seq (rg (st (v := (B r47)) (rv_move rfl) (st (v := (B r29)) (rv_move rfl) (st (v := (B (r47 != r29))) (rv_bneq Try.underlying4 rfl rfl) (w_end (q_then ?_))))))))))
   refine cd_cond (r47 != r29) rfl (fun hb51 => ?_) (fun hb51 => ?_)
   ·replace h := bif_t hb51 h
    refine c_seq (rg (st (v := (B false)) (rv_assign rfl) (w_end (q_then (c_ret (q_then_r ?_))))))
    obtain rfl := Option.some.inj h
    exact fin_ret (v := (B false)) (results_ok Try.results10 (res_tmp (v := (B false)) rfl res_nil) rfl) ⟨rfl, rfl⟩ (H.sel' [] rfl rfl)
   ·replace h := bif_f hb51 h
    refine c_skip (q_then (c_seq (c_seq (rg (st (v := (Sl a36 r33 c37)) (rv_move rfl) (st (v := (Sl Hj Hg Hk)) (rv_move rfl) ?_))))))
    obtain ⟨r52, hx53, h'⟩ := bind_some h
    clear h
    have h := h'; clear h'
    have hc54 := c_laws_toNodeS (Gw := Hj) (Gx := Hk) hx53
    refine st_call (cx_call hc54 (ent_f hc54.fn rfl) hn0 (H.sel' [2, 0, 1, 2, 3] rfl rfl : Hp S0 σ0 _ ([_] ++ _))) wn ?_
    rintro _ σ58 ⟨_, ⟨a55, c56, rfl, rfl, ht57⟩, H, -⟩
    replace H : Hp _ _ _ [_, _, _, _, _] := H
    obtain ⟨σ59, hw60, H, -⟩ := H.pub 1 rfl (Nat.le_refl _)
    rw [← hw60]; clear hw60
    obtain ⟨σ61, hw62, H, -⟩ := H.pub 1 rfl (Nat.le_refl _)
    rw [← hw62]; clear hw62
    replace H := H.roLow 1 0 rfl (Nat.zero_le _)
    replace H := H.roLow 1 0 rfl (Nat.zero_le _)
    obtain ⟨r63, hx64, h'⟩ := bind_some h
    clear h
    have h := h'; clear h'
    have hc65 := c_laws_eqNodeS (Gw := a36) (Gx := c37) (Gy := a55) (Gz := c56) hx64
    refine st_call (cx_call hc65 (ent_f hc65.fn rfl) hn0 (H.sel' [1, 0, 0, 1, 2, 3, 4, 5, 6] rfl rfl : Hp S0 σ0 _ ([_, _] ++ _))) wn ?_
    rintro _ σ66 ⟨_, ⟨rfl, rfl⟩, H, -⟩
    replace H : Hp _ _ _ [_, _, _, _, _, _, _] := H
    refine st (v := (B (!r63))) (rv_not rfl) (w_end (q_then ?_))
    refine cd_cond (!r63) rfl (fun hb67 => ?_) (fun hb67 => ?_)
    ·replace h := bif_t hb67 h
     refine c_seq (rg (st (v := (B false)) (rv_assign rfl) (w_end (q_then (c_ret (q_then_r ?_))))))
     obtain rfl := Option.some.inj h
     exact fin_ret (v := (B false)) (results_ok Try.results10 (res_tmp (v := (B false)) rfl res_nil) rfl) ⟨rfl, rfl⟩ (H.sel' [] rfl rfl)
    ·replace h := bif_f hb67 h
     refine c_skip (q_then (c_seq (c_seq (rg (st (v := (Sl a43 r40 c44)) (rv_move rfl) (st (v := (Sl Hl Hh Hm)) (rv_move rfl) ?_))))))
     obtain ⟨r68, hx69, h'⟩ := bind_some h
     clear h
     have h := h'; clear h'
     have hc70 := c_laws_toItemS (Gw := Hl) (Gx := Hm) hx69
     refine st_call (cx_call hc70 (ent_f hc70.fn rfl) hn0 (H.sel' [6, 0, 1, 2, 3, 4, 5, 6] rfl rfl : Hp S0 σ0 _ ([_] ++ _))) wn ?_
     rintro _ σ74 ⟨_, ⟨a71, c72, rfl, rfl, ht73⟩, H, -⟩
     replace H : Hp _ _ _ [_, _, _, _, _, _, _, _] := H
     replace H : Hp S0 σ0 σ74 [Ch.own n0 n0 (Sl a71 r68 c72) r68, Ch.own n0 n0 (Sl a43 r40 c44) r40] := H.sel' [0, 5] rfl rfl
     obtain ⟨σ75, hw76, H, -⟩ := H.pub 1 rfl (Nat.le_refl _)
     rw [← hw76]; clear hw76
     obtain ⟨σ77, hw78, H, -⟩ := H.pub 1 rfl (Nat.le_refl _)
     rw [← hw78]; clear hw78
     replace H := H.roLow 1 0 rfl (Nat.zero_le _)
     replace H := H.roLow 1 0 rfl (Nat.zero_le _)
     obtain ⟨r79, hx80, h'⟩ := bind_some h
     clear h
     have h := h'; clear h'
     have hc81 := c_laws_eqItemS (Gw := a43) (Gx := c44) (Gy := a71) (Gz := c72) hx80
     refine st_call (cx_call hc81 (ent_f hc81.fn rfl) hn0 (H.sel' [1, 0, 0, 1, 2, 3] rfl rfl : Hp S0 σ0 _ ([_, _] ++ _))) wn ?_
     rintro _ σ82 ⟨_, ⟨rfl, rfl⟩, H, -⟩
     replace H : Hp _ _ _ [_, _, _, _] := H
     refine st (v := (B (!r79))) (rv_not rfl) (w_end (q_then ?_))
     refine cd_cond (!r79) rfl (fun hb83 => ?_) (fun hb83 => ?_)
     ·replace h := bif_t hb83 h
      refine c_seq (rg (st (v := (B false)) (rv_assign rfl) (w_end (q_then (c_ret (q_then_r ?_))))))
      obtain rfl := Option.some.inj h
      exact fin_ret (v := (B false)) (results_ok Try.results10 (res_tmp (v := (B false)) rfl res_nil) rfl) ⟨rfl, rfl⟩ (H.sel' [] rfl rfl)
     ·replace h := bif_f hb83 h
      refine c_skip (q_then (c_seq (rg (st (v := (B true)) (rv_assign rfl) (w_end (q_then (c_ret ?_)))))))
      obtain rfl := Option.some.inj h
      exact fin_ret (v := (B true)) (results_ok Try.results10 (res_tmp (v := (B true)) rfl res_nil) rfl) ⟨rfl, rfl⟩ (H.sel' [] rfl rfl)

end Go.Vs
