/- The functions compute what their models say. -/
import Derived.Test.YtflpjndobffkjaaKExactTreeVisitsC7
set_option linter.unusedVariables false
set_option linter.unusedSimpArgs false
set_option maxRecDepth 20000
namespace Go.Vs
open Go Go.Proofs
attribute [local irreducible] Code.wp Code.wpIn wpList wpListIn wpQuiet Calls CallsIn

theorem c_laws_toItem {Ah : Int × (List Int) × Int} {Jg : Option Addr} {Jh : Nat} {r : (Int × (List Int) × Int)} (h : M.laws_toItem Ah = some r) :
    Cal2 Try.prog 58 [(.agg #[(I Ah.1), (Sl Jg Ah.2.1 Jh), (I Ah.2.2)])] [Ch.ro 0 (Sl Jg Ah.2.1 Jh) Ah.2.1] (fun n0 v L => ∃ (az1 : Option Addr), ∃ (cz2 : Nat), v = (.agg #[(I r.1), (Sl az1 r.2.1 cz2), (I r.2.2)]) ∧ L = [Ch.own n0 n0 (Sl az1 r.2.1 cz2) r.2.1] ∧ cz2 = r.2.1.length) := by
 refine cal2 (n := 15) Try.func58 rfl rfl rfl rfl ?_
 intro S0 σ0 n0 hn0 H
 unfold M.laws_toItem at h
 refine c_seq (rg (st_ex (ex_box (cs := [(I Ah.1), (Sl Jg Ah.2.1 Jh), (I Ah.2.2)]) H hn0 rfl rfl) wn ?_))
 rintro _ σ2 ⟨b1, rfl, H, -⟩
 refine st_ex (ex_alloc (cs := [(I 0), (.slice none 0 0), (I 0)]) H hn0 ti34 rfl) wn ?_
 rintro _ σ4 ⟨b3, rfl, H, -⟩
 refine w_end (q_then (c_seq (rg (st_ex (ex_alloc (cs := [(I 0), (.slice none 0 0), (I 0)]) H hn0 ti34 rfl) wn ?_))))
 rintro _ σ6 ⟨b5, rfl, H, -⟩
 refine w_end (q_then (c_seq (rg (st (v := (pt b1 0)) (rv_fieldAddr (off := 0) (ft := 3) Try.underlying86 rfl ti3 rfl rfl) ?_))))
 have hc7 := H.cell (u := (I Ah.1)) (o' := 0) 2 0 rfl rfl rfl
 refine st (v := (I Ah.1)) (rv_load1 Try.underlying3 rfl rfl hc7) (st (v := (pt b5 0)) (rv_fieldAddr (off := 0) (ft := 3) Try.underlying34 rfl ti3 rfl rfl) ?_)
 refine st_exS (ex_store_box (k := 0) (cs := [(I 0), (.slice none 0 0), (I 0)]) (vs := [(I Ah.1)]) (cs' := [(I Ah.1), (.slice none 0 0), (I 0)]) H (i := 0) rfl ti3 rfl rfl rfl rfl rfl (Nat.le_of_ble_eq_true rfl) (by simp [plain]) rfl) wn ?_
 rintro σ8 ⟨H, -⟩
 refine w_end (q_then (c_seq (rg (st (v := (pt b1 1)) (rv_fieldAddr (off := 1) (ft := 29) Try.underlying86 rfl ti29 rfl rfl) ?_))))
 have hc9 := H.cell (u := (Sl Jg Ah.2.1 Jh)) (o' := 1) 2 1 rfl rfl rfl
 refine st (v := (Sl Jg Ah.2.1 Jh)) (rv_load1 Try.underlying29 rfl rfl hc9) ?_
 obtain ⟨r10, hx11, h'⟩ := bind_some h
 clear h
 have h := h'; clear h'
 have hc12 := c_laws_toIntS (Je := Jg) (Jf := Jh) hx11
 refine st_call (cx_call hc12 (ent_f hc12.fn rfl) hn0 (H.sel' [3, 0, 1, 2, 3] rfl rfl : Hp S0 σ0 _ ([_] ++ _))) wn ?_
 rintro _ σ16 ⟨_, ⟨a13, c14, rfl, rfl, ht15⟩, H, -⟩
 replace H : Hp _ _ _ [_, _, _, _, _] := H
 refine st (v := (pt b5 1)) (rv_fieldAddr (off := 1) (ft := 29) Try.underlying34 rfl ti29 rfl rfl) ?_
 refine st_exS (ex_store_box (k := 1) (cs := [(I Ah.1), (.slice none 0 0), (I 0)]) (vs := [(Sl a13 r10 c14)]) (cs' := [(I Ah.1), (Sl a13 r10 c14), (I 0)]) H (i := 1) rfl ti29 rfl rfl rfl rfl rfl (Nat.le_of_ble_eq_true rfl) (by simp [plain]) rfl) wn ?_
 rintro σ17 ⟨H, -⟩
 refine w_end (q_then (c_seq (rg (st (v := (pt b1 2)) (rv_fieldAddr (off := 2) (ft := 3) Try.underlying86 rfl ti3 rfl rfl) ?_))))
 have hc18 := H.cell (u := (I Ah.2.2)) (o' := 2) 3 2 rfl rfl rfl
 refine st (v := (I Ah.2.2)) (rv_load1 Try.underlying3 rfl rfl hc18) (st (v := (pt b5 2)) (rv_fieldAddr (off := 2) (ft := 3) Try.underlying34 rfl ti3 rfl rfl) ?_)
 refine st_exS (ex_store_box (k := 2) (cs := [(I Ah.1), (Sl a13 r10 c14), (I 0)]) (vs := [(I Ah.2.2)]) (cs' := [(I Ah.1), (Sl a13 r10 c14), (I Ah.2.2)]) H (i := 0) rfl ti3 rfl rfl rfl rfl rfl (Nat.le_of_ble_eq_true rfl) (by simp [plain]) rfl) wn ?_
 rintro σ19 ⟨H, -⟩
 refine w_end (q_then (c_seq (rg ?_)))
 have hc20 := H.cells 0 rfl
 refine st (v := (.agg #[(I Ah.1), (Sl a13 r10 c14), (I Ah.2.2)])) (rv_load (cs := [(I Ah.1), (Sl a13 r10 c14), (I Ah.2.2)]) Try.underlying34 rfl ti34 rfl rfl hc20) ?_
 refine st_exS (ex_store_box (k := 0) (cs := [(I 0), (.slice none 0 0), (I 0)]) (vs := [(I Ah.1), (Sl a13 r10 c14), (I Ah.2.2)]) (cs' := [(I Ah.1), (Sl a13 r10 c14), (I Ah.2.2)]) H (i := 2) rfl ti34 rfl rfl rfl rfl rfl (Nat.le_of_ble_eq_true rfl) (by simp [plain]) rfl) wn ?_
 rintro σ21 ⟨H, -⟩
 refine w_end (q_then (c_ret ?_))
 obtain rfl := Option.some.inj h
 exact fin_ret (v := (.agg #[(I Ah.1), (Sl a13 r10 c14), (I Ah.2.2)])) (results_ok Try.results58 (res_cell rfl (run_cellRes (cs := [(I Ah.1), (Sl a13 r10 c14), (I Ah.2.2)]) Try.underlying34 rfl ti34 rfl (H.cells 0 rfl)) res_nil) rfl) ⟨a13, c14, rfl, rfl, ht15⟩ (H.sel' [2] rfl rfl)

theorem c_laws_toItemS {Ah : List (Int × (List Int) × Int)} {Je : Option Addr} {Jf : Nat} {r : (List (Int × (List Int) × Int))} (h : M.laws_toItemS Ah = some r) :
    Cal2 Try.prog 26 [(Sl Je Ah Jf)] [Ch.ro 0 (Sl Je Ah Jf) Ah] (fun n0 v L => ∃ (az1 : Option Addr), ∃ (cz2 : Nat), v = (Sl az1 r cz2) ∧ L = [Ch.own n0 n0 (Sl az1 r cz2) r] ∧ cz2 = r.length) := by
 refine cal2 (n := 23) Try.func26 rfl rfl rfl rfl ?_
 intro S0 σ0 n0 hn0 H
 unfold M.laws_toItemS at h
 refine c_seq (rg (st (v := (.slice none 0 0)) (rv_assign rfl) (w_end (q_then (c_seq (rg (st (v := (Sl Je Ah Jf)) (rv_move rfl) (st (v := (I (Ah.length : Int))) (rv_len Try.underlying44 rfl) ?_))))))))
 obtain ⟨xs1, hx2, h'⟩ := bind_some h
 clear h
 have h := h'; clear h'
 refine st_ex (ex_make (el := n0) (z0 := ((0, [], 0) : Int × (List Int) × Int)) (zs := [(I 0), (.slice none 0 0), (I 0)]) H hn0 Try.underlying23 ti34 rfl rfl (⟨[(I 0)], [(.slice none 0 0), (I 0)], rfl, rfl, ⟨[(.slice none 0 0)], [(I 0)], rfl, ⟨_, rfl, RS.nil⟩, rfl⟩⟩) (by decide) hx2 rfl rfl) wn ?_
 rintro _ σ6 ⟨b3, c4, rfl, ht5, H, -⟩
 replace ht5 := ht5.trans (gmake_len hx2).symm
 refine st (v := (Sl (some ⟨b3, 0, none⟩) xs1 c4)) (rv_assign rfl) (w_end (q_then (c_seq (c_seq (rg (st (v := (I 0)) (rv_assign rfl) (w_end (q_then ?_))))))))
 obtain ⟨o7, hj, h'⟩ := bind_some h
 clear h
 refine c_cut (fun e a w => e = .normal ∧ ∃ (ρ : Nat → Value) (σ : St), a = fr 23 (updL ρ [(3, (Sl (some ⟨b3, 0, none⟩) o7 c4))]) ∧ w = σ.w ∧ Hp S0 σ0 σ [Ch.own n0 n0 (Sl (some ⟨b3, 0, none⟩) o7 c4) o7] ∧ c4 = o7.length ∧ o7.length = xs1.length) ?_ ?_
 ·clear h'
  rename _ = some o7 => h
  refine c_blk (wp_loopM _ h (fun s8 a w => ∃ (ρ : Nat → Value) (σ : St), a = fr 23 (updL ρ [(0, (Sl Je Ah Jf)), (3, (Sl (some ⟨b3, 0, none⟩) s8.1 c4)), (4, (I s8.2))]) ∧ w = σ.w ∧ Hp S0 σ0 σ [Ch.ro 0 (Sl Je Ah Jf) Ah, Ch.own n0 n0 (Sl (some ⟨b3, 0, none⟩) s8.1 c4) s8.1] ∧ c4 = s8.1.length ∧ s8.1.length = xs1.length) ⟨_, σ6, fr_join ⟨rfl, rfl, rfl, trivial⟩, rfl, H.sel' [1, 0] rfl rfl, ht5, rfl⟩ ?_)
  clear h H
  rintro s8 a w o ⟨ρ, σ9, rfl, rfl, H, ht10, hn11⟩ h hres
  refine c_seq (c_seq (rg (st (v := (I s8.2)) (rv_move rfl) (st (v := (Sl Je Ah Jf)) (rv_move rfl) (st (v := (I (Ah.length : Int))) (rv_len Try.underlying44 rfl) (st (v := (B (decide (s8.2 < (Ah.length : Int))))) (rv_lss (a := s8.2) (b := (Ah.length : Int)) rfl rfl) (w_end (q_then ?_))))))))
  refine cd_cond (decide (s8.2 < (Ah.length : Int))) rfl (fun hb12 => ?_) (fun hb12 => ?_)
  ·replace h := bif_t hb12 h
   refine c_skip (q_then (c_seq (c_blk (rg (st (v := (Sl (some ⟨b3, 0, none⟩) s8.1 c4)) (rv_move rfl) (st (v := (I s8.2)) (rv_move rfl) (st (v := (Sl Je Ah Jf)) (rv_move rfl) (st (v := (I s8.2)) (rv_move rfl) ?_))))))))
   obtain ⟨x13, hx14, h'⟩ := bind_some h
   clear h
   have h := h'; clear h'
   obtain ⟨b16, o17, hi15, -⟩ := (H.ro 0 rfl).ix hx14
   refine st (v := (pt b16 o17)) (rv_ix Try.underlying44 ti86 rfl rfl hi15) ?_
   obtain ⟨_, ⟨_, _, rfl, rfl, ⟨_, _, rfl, ⟨_, rfl, hR22⟩, rfl⟩⟩, hl18, hc19⟩ := ((H.ro 0 rfl).at hx14 hi15).cells
   obtain ⟨a20, c21, rfl⟩ := hR22.isSl
   replace H := H.add (d := Ch.ro 0 (Sl a20 x13.2.1 c21) x13.2.1) hR22 (fun _ h => h)
   clear hR22
   refine st (v := (.agg #[(I x13.1), (Sl a20 x13.2.1 c21), (I x13.2.2)])) (rv_load Try.underlying86 rfl ti86 rfl hl18 hc19) ?_
   obtain ⟨r23, hx24, h'⟩ := bind_some h
   clear h
   have h := h'; clear h'
   have hc25 := c_laws_toItem (Jg := a20) (Jh := c21) hx24
   refine st_call (cx_call hc25 (ent_f hc25.fn rfl) hn0 (H.sel' [0, 0, 1, 2] rfl rfl : Hp S0 σ0 _ ([_] ++ _))) wn ?_
   rintro _ σ29 ⟨_, ⟨a26, c27, rfl, rfl, ht28⟩, H, -⟩
   replace H : Hp _ _ _ [_, _, _, _] := H
   obtain ⟨x30, hx31, h'⟩ := bind_some h
   clear h
   have h := h'; clear h'
   obtain ⟨b33, o34, hi32, -⟩ := (H.own 3 rfl).ix hx31
   refine st (v := (pt b33 o34)) (rv_ix Try.underlying23 ti34 rfl rfl hi32) ?_
   obtain ⟨σ35, hw36, H, -⟩ := H.pub 0 rfl (Nat.le_refl _)
   rw [← hw36]; clear hw36
   refine st_exS (ex_store_own (e' := (r23.1, r23.2.1, r23.2.2)) (vs := [(I r23.1), (Sl a26 r23.2.1 c27), (I r23.2.2)]) (k := 0) H (i := 3) rfl ti34 hx31 hi32 rfl rfl rfl rfl rfl (Nat.le_of_ble_eq_true rfl) (by simp [plain]) (by rintro _ ⟨_, _, rfl, rfl, ⟨_, _, rfl, ⟨_, rfl, hR39⟩, rfl⟩⟩; exact ⟨[(I r23.1)], [(Sl a26 r23.2.1 c27), (I r23.2.2)], rfl, rfl, ⟨[(Sl a26 r23.2.1 c27)], [(I r23.2.2)], rfl, ⟨_, rfl, (H.ro 0 rfl)⟩, rfl⟩⟩)) wn ?_
   rintro σ40 ⟨H, -⟩
   have hsl : (Sl (some ⟨b3, 0, none⟩) s8.1 c4) = (Sl (some ⟨b3, 0, none⟩) (s8.1.set s8.2.toNat (r23.1, r23.2.1, r23.2.2)) c4) := sl_len List.length_set.symm
   rw [hsl]; rw [hsl] at H; clear hsl
   refine w_end (q_blk (q_then (rg (st (v := (I s8.2)) (rv_move rfl) (st (v := (I (w64 (s8.2 + 1)))) (rv_add (a := s8.2) (b := 1) rfl rfl) (st (v := (I (w64 (s8.2 + 1)))) (rv_assign rfl) (w_end (q_then ?_))))))))
   obtain rfl := Option.some.inj h
   exact ⟨_, rfl, _, σ40, fr_join ⟨rfl, rfl, rfl, trivial⟩, rfl, H.sel' [3, 0] rfl rfl, (ht10.trans List.length_set.symm), (List.length_set.trans hn11)⟩
  ·replace h := bif_f hb12 h
   refine c_exit (q_then_x (q_then_x (q_blk_hit ?_)))
   obtain rfl := Option.some.inj h
   obtain rfl := hres _ rfl
   exact ⟨rfl, _, σ9, fr_join ⟨rfl, trivial⟩, rfl, H.sel' [1] rfl rfl, ht10, hn11⟩
 ·clear hj
  have h := h'
  clear h' H
  rintro e a w ⟨rfl, ρ, σ41, rfl, rfl, H, ht42, hn43⟩
  refine q_then (c_seq (rg (st (v := (Sl (some ⟨b3, 0, none⟩) o7 c4)) (rv_move rfl) (st (v := (Sl (some ⟨b3, 0, none⟩) o7 c4)) (rv_assign rfl) (w_end (q_then (c_ret ?_)))))))
  obtain rfl := Option.some.inj h
  exact fin_ret (v := (Sl (some ⟨b3, 0, none⟩) o7 c4)) (results_ok Try.results26 (res_tmp (v := (Sl (some ⟨b3, 0, none⟩) o7 c4)) rfl res_nil) rfl) ⟨(some ⟨b3, 0, none⟩), c4, rfl, rfl, ht42⟩ (H.sel' [0] rfl rfl)

theorem c_laws_eqIntS {Ah : List Int} {Ai : List Int} {Je : Option Addr} {Jf : Nat} {Ji : Option Addr} {Jj : Nat} {r : Bool} (h : M.laws_eqIntS Ah Ai = some r) :
    Cal2 Try.prog 35 [(Sl Je Ah Jf), (Sl Ji Ai Jj)] [Ch.ro 0 (Sl Je Ah Jf) Ah, Ch.ro 0 (Sl Ji Ai Jj) Ai] (fun n0 v L => v = (B r) ∧ L = []) := by
 refine cal2 (n := 26) Try.func35 rfl rfl rfl rfl ?_
 intro S0 σ0 n0 hn0 H
 unfold M.laws_eqIntS at h
 refine c_seq (rg (st (v := (B false)) (rv_assign rfl) (w_end (q_then (c_seq (c_seq (rg (st (v := (Sl Je Ah Jf)) (rv_move rfl) (st (v := (I (Ah.length : Int))) (rv_len Try.underlying29 rfl) (st (v := (Sl Ji Ai Jj)) (rv_move rfl) (st (v := (I (Ai.length : Int))) (rv_len Try.underlying29 rfl) ?_)))))))))))
 refine st (v := (B ((Ah.length : Int) != (Ai.length : Int)))) (rv_neq (a := (Ah.length : Int)) (b := (Ai.length : Int)) rfl rfl) (w_end (q_then ?_))
 refine cd_cond ((Ah.length : Int) != (Ai.length : Int)) rfl (fun hb1 => ?_) (fun hb1 => ?_)
 ·replace h := bif_t hb1 h
  refine c_seq (rg (st (v := (B false)) (rv_assign rfl) (w_end (q_then (c_ret (q_then_r ?_))))))
  obtain rfl := Option.some.inj h
  exact fin_ret (v := (B false)) (results_ok Try.results35 (res_tmp (v := (B false)) rfl res_nil) rfl) ⟨rfl, rfl⟩ (H.sel' [] rfl rfl)
 ·replace h := bif_f hb1 h
  refine c_skip (q_then (c_seq (c_seq (rg (st (v := (I 0)) (rv_assign rfl) (w_end (q_then ?_)))))))
  obtain ⟨o2, hj, h'⟩ := bind_some h
  clear h
  refine c_cut (fun e a w => (∃ t, o2 = (.inl t) ∧ e = .normal ∧ ∃ (ρ : Nat → Value) (σ : St), a = fr 26 (updL ρ []) ∧ w = σ.w ∧ Hp S0 σ0 σ []) ∨ (∃ t, o2 = (.inr t) ∧ e = .ret ∧ ∃ (ρ : Nat → Value) (σ : St), a = fr 26 (updL ρ [(4, (B t))]) ∧ w = σ.w ∧ Hp S0 σ0 σ [])) ?_ ?_
  ·clear h'
   rename _ = some o2 => h
   refine c_blk (wp_loopM _ h (fun s3 a w => ∃ (ρ : Nat → Value) (σ : St), a = fr 26 (updL ρ [(0, (Sl Je Ah Jf)), (1, (Sl Ji Ai Jj)), (5, (I s3))]) ∧ w = σ.w ∧ Hp S0 σ0 σ [Ch.ro 0 (Sl Je Ah Jf) Ah, Ch.ro 0 (Sl Ji Ai Jj) Ai]) ⟨_, σ0, fr_join ⟨rfl, rfl, rfl, trivial⟩, rfl, H.sel' [0, 1] rfl rfl⟩ ?_)
   clear h H
   rintro s3 a w o ⟨ρ, σ4, rfl, rfl, H⟩ h hres
   refine c_seq (c_seq (rg (st (v := (I s3)) (rv_move rfl) (st (v := (Sl Je Ah Jf)) (rv_move rfl) (st (v := (I (Ah.length : Int))) (rv_len Try.underlying29 rfl) (st (v := (B (decide (s3 < (Ah.length : Int))))) (rv_lss (a := s3) (b := (Ah.length : Int)) rfl rfl) (w_end (q_then ?_))))))))
   refine cd_cond (decide (s3 < (Ah.length : Int))) rfl (fun hb5 => ?_) (fun hb5 => ?_)
   ·replace h := bif_t hb5 h
    refine c_skip (q_then (c_seq (c_blk (c_seq ?_))))
    refine rgP (σ := σ4) 8 (by kernel_rfl) (by kernel_rfl) (by kernel_rfl) ?_
    refine sq (v := (Sl Je Ah Jf)) (rv_move rfl) (sq (v := (I s3)) (rv_move rfl) ?_)
    obtain ⟨x6, hx7, h'⟩ := bind_some h
    clear h
    have h := h'; clear h'
    obtain ⟨b9, o10, hi8, -⟩ := (H.ro 0 rfl).ix hx7
    refine sq (v := (pt b9 o10)) (rv_ix Try.underlying29 ti3 rfl rfl hi8) ?_
    have hc11 := ((H.ro 0 rfl).at hx7 hi8).int
    refine sq (v := (I x6)) (rv_load1 Try.underlying3 rfl rfl hc11) (sq (v := (Sl Ji Ai Jj)) (rv_move rfl) (sq (v := (I s3)) (rv_move rfl) ?_))
    obtain ⟨x12, hx13, h'⟩ := bind_some h
    clear h
    have h := h'; clear h'
    obtain ⟨b15, o16, hi14, -⟩ := (H.ro 1 rfl).ix hx13
    refine sq (v := (pt b15 o16)) (rv_ix Try.underlying29 ti3 rfl rfl hi14) ?_
    have hc17 := ((H.ro 1 rfl).at hx13 hi14).int
    refine sq (v := (I x12)) (rv_load1 Try.underlying3 rfl rfl hc17) (sq_end ?_)
    intro σ18 hm19
    replace H := H.grow (hm19.mono fun _ h => h); clear hm19
    refine st (v := (B (x6 != x12))) (rv_neq (a := x6) (b := x12) rfl rfl) (w_end (q_then ?_))
    refine cd_cond (x6 != x12) rfl (fun hb20 => ?_) (fun hb20 => ?_)
    ·replace h := bif_t hb20 h
     refine c_seq (rg (st (v := (B false)) (rv_assign rfl) (w_end (q_then (c_ret (q_blk_r (q_then_r (q_then_r (q_blk_r ?_)))))))))
     obtain rfl := Option.some.inj h
     obtain rfl := hres _ rfl
     exact .inr (⟨_, rfl, rfl, _, σ18, fr_join ⟨rfl, trivial⟩, rfl, H.sel' [] rfl rfl⟩)
    ·replace h := bif_f hb20 h
     refine c_skip (q_blk (q_then (rg (st (v := (I s3)) (rv_move rfl) (st (v := (I (w64 (s3 + 1)))) (rv_add (a := s3) (b := 1) rfl rfl) (st (v := (I (w64 (s3 + 1)))) (rv_assign rfl) (w_end (q_then ?_))))))))
     obtain rfl := Option.some.inj h
     exact ⟨_, rfl, _, σ18, fr_join ⟨rfl, rfl, rfl, trivial⟩, rfl, H.sel' [0, 1] rfl rfl⟩
   ·replace h := bif_f hb5 h
    refine c_exit (q_then_x (q_then_x (q_blk_hit ?_)))
    obtain rfl := Option.some.inj h
    obtain rfl := hres _ rfl
    exact .inl ⟨_, rfl, rfl, _, σ4, fr_join trivial, rfl, H.sel' [] rfl rfl⟩
  ·clear hj
   have h := h'
   clear h' H
   rintro e a w (⟨t21, rfl, rfl, ρ, σ22, rfl, rfl, H⟩ | ⟨t23, rfl, rfl, ρ, σ24, rfl, rfl, H⟩)
   ·replace h := selim_l h
    refine q_then (c_seq (rg (st (v := (B true)) (rv_assign rfl) (w_end (q_then (c_ret ?_))))))
    obtain rfl := Option.some.inj h
    exact fin_ret (v := (B true)) (results_ok Try.results35 (res_tmp (v := (B true)) rfl res_nil) rfl) ⟨rfl, rfl⟩ (H.sel' [] rfl rfl)
   ·replace h := selim_r h
    refine q_then_r ?_
    obtain rfl := Option.some.inj h
    exact fin_ret (v := (B t23)) (results_ok Try.results35 (res_tmp (v := (B t23)) rfl res_nil) rfl) ⟨rfl, rfl⟩ (H.sel' [] rfl rfl)

theorem c_laws_eqItem {Ah : Int × (List Int) × Int} {Ai : Int × (List Int) × Int} {Jg : Option Addr} {Jh : Nat} {Jk : Option Addr} {Jm : Nat} {r : Bool} (h : M.laws_eqItem Ah Ai = some r) :
    Cal2 Try.prog 60 [(.agg #[(I Ah.1), (Sl Jg Ah.2.1 Jh), (I Ah.2.2)]), (.agg #[(I Ai.1), (Sl Jk Ai.2.1 Jm), (I Ai.2.2)])] [Ch.ro 0 (Sl Jg Ah.2.1 Jh) Ah.2.1, Ch.ro 0 (Sl Jk Ai.2.1 Jm) Ai.2.1] (fun n0 v L => v = (B r) ∧ L = []) := by
 refine cal2 (n := 21) Try.func60 rfl rfl rfl rfl ?_
 intro S0 σ0 n0 hn0 H
 unfold M.laws_eqItem at h
 refine c_seq (rg (st_ex (ex_box (cs := [(I Ah.1), (Sl Jg Ah.2.1 Jh), (I Ah.2.2)]) H hn0 rfl rfl) wn ?_))
 rintro _ σ2 ⟨b1, rfl, H, -⟩
 refine st_ex (ex_box (cs := [(I Ai.1), (Sl Jk Ai.2.1 Jm), (I Ai.2.2)]) H hn0 rfl rfl) wn ?_
 rintro _ σ4 ⟨b3, rfl, H, -⟩
 refine st (v := (B false)) (rv_assign rfl) (w_end (q_then (c_seq (c_seq (rg (st (v := (pt b1 0)) (rv_fieldAddr (off := 0) (ft := 3) Try.underlying34 rfl ti3 rfl rfl) ?_))))))
 have hc5 := H.cell (u := (I Ah.1)) (o' := 0) 1 0 rfl rfl rfl
 refine st (v := (I Ah.1)) (rv_load1 Try.underlying3 rfl rfl hc5) (st (v := (pt b3 0)) (rv_fieldAddr (off := 0) (ft := 3) Try.underlying34 rfl ti3 rfl rfl) ?_)
 have hc6 := H.cell (u := (I Ai.1)) (o' := 0) 0 0 rfl rfl rfl
 refine st (v := (I Ai.1)) (rv_load1 Try.underlying3 rfl rfl hc6) (st (v := (B (Ah.1 != Ai.1))) (rv_neq (a := Ah.1) (b := Ai.1) rfl rfl) (w_end (q_then ?_)))
 refine cd_cond (Ah.1 != Ai.1) rfl (fun hb7 => ?_) (fun hb7 => ?_)
 ·replace h := bif_t hb7 h
  refine c_seq (rg (st (v := (B false)) (rv_assign rfl) (w_end (q_then (c_ret (q_then_r ?_))))))
  obtain rfl := Option.some.inj h
  exact fin_ret (v := (B false)) (results_ok Try.results60 (res_tmp (v := (B false)) rfl res_nil) rfl) ⟨rfl, rfl⟩ (H.sel' [] rfl rfl)
 ·replace h := bif_f hb7 h
  refine c_skip (q_then (c_seq (c_seq (rg (st (v := (pt b1 1)) (rv_fieldAddr (off := 1) (ft := 29) Try.underlying34 rfl ti29 rfl rfl) ?_)))))
  have hc8 := H.cell (u := (Sl Jg Ah.2.1 Jh)) (o' := 1) 1 1 rfl rfl rfl
  refine st (v := (Sl Jg Ah.2.1 Jh)) (rv_load1 Try.underlying29 rfl rfl hc8) (st (v := (pt b3 1)) (rv_fieldAddr (off := 1) (ft := 29) Try.underlying34 rfl ti29 rfl rfl) ?_)
  have hc9 := H.cell (u := (Sl Jk Ai.2.1 Jm)) (o' := 1) 0 1 rfl rfl rfl
  refine st (v := (Sl Jk Ai.2.1 Jm)) (rv_load1 Try.underlying29 rfl rfl hc9) ?_
  obtain ⟨r10, hx11, h'⟩ := bind_some h
  clear h
  have h := h'; clear h'
  have hc12 := c_laws_eqIntS (Je := Jg) (Jf := Jh) (Ji := Jk) (Jj := Jm) hx11
  refine st_call (cx_call hc12 (ent_f hc12.fn rfl) hn0 (H.sel' [2, 3, 0, 1, 2, 3] rfl rfl : Hp S0 σ0 _ ([_, _] ++ _))) wn ?_
  rintro _ σ13 ⟨_, ⟨rfl, rfl⟩, H, -⟩
  replace H : Hp _ _ _ [_, _, _, _] := H
  refine st (v := (B (!r10))) (rv_not rfl) (w_end (q_then ?_))
  refine cd_cond (!r10) rfl (fun hb14 => ?_) (fun hb14 => ?_)
  ·replace h := bif_t hb14 h
   refine c_seq (rg (st (v := (B false)) (rv_assign rfl) (w_end (q_then (c_ret (q_then_r ?_))))))
   obtain rfl := Option.some.inj h
   exact fin_ret (v := (B false)) (results_ok Try.results60 (res_tmp (v := (B false)) rfl res_nil) rfl) ⟨rfl, rfl⟩ (H.sel' [] rfl rfl)
  ·replace h := bif_f hb14 h
   refine c_skip (q_then (c_seq (c_seq (rg (st (v := (pt b1 2)) (rv_fieldAddr (off := 2) (ft := 3) Try.underlying34 rfl ti3 rfl rfl) ?_)))))
   have hc15 := H.cell (u := (I Ah.2.2)) (o' := 2) 1 2 rfl rfl rfl
   refine st (v := (I Ah.2.2)) (rv_load1 Try.underlying3 rfl rfl hc15) (st (v := (pt b3 2)) (rv_fieldAddr (off := 2) (ft := 3) Try.underlying34 rfl ti3 rfl rfl) ?_)
   have hc16 := H.cell (u := (I Ai.2.2)) (o' := 2) 0 2 rfl rfl rfl
   refine st (v := (I Ai.2.2)) (rv_load1 Try.underlying3 rfl rfl hc16) (st (v := (B (Ah.2.2 != Ai.2.2))) (rv_neq (a := Ah.2.2) (b := Ai.2.2) rfl rfl) (w_end (q_then ?_)))
   refine cd_cond (Ah.2.2 != Ai.2.2) rfl (fun hb17 => ?_) (fun hb17 => ?_)
   ·replace h := bif_t hb17 h
    refine c_seq (rg (st (v := (B false)) (rv_assign rfl) (w_end (q_then (c_ret (q_then_r ?_))))))
    obtain rfl := Option.some.inj h
    exact fin_ret (v := (B false)) (results_ok Try.results60 (res_tmp (v := (B false)) rfl res_nil) rfl) ⟨rfl, rfl⟩ (H.sel' [] rfl rfl)
   ·replace h := bif_f hb17 h
    refine c_skip (q_then (c_seq (rg (st (v := (B true)) (rv_assign rfl) (w_end (q_then (c_ret ?_)))))))
    obtain rfl := Option.some.inj h
    exact fin_ret (v := (B true)) (results_ok Try.results60 (res_tmp (v := (B true)) rfl res_nil) rfl) ⟨rfl, rfl⟩ (H.sel' [] rfl rfl)

theorem c_laws_eqItemS {Ah : List (Int × (List Int) × Int)} {Ai : List (Int × (List Int) × Int)} {Je : Option Addr} {Jf : Nat} {Ji : Option Addr} {Jj : Nat} {r : Bool} (h : M.laws_eqItemS Ah Ai = some r) :
    Cal2 Try.prog 28 [(Sl Je Ah Jf), (Sl Ji Ai Jj)] [Ch.ro 0 (Sl Je Ah Jf) Ah, Ch.ro 0 (Sl Ji Ai Jj) Ai] (fun n0 v L => v = (B r) ∧ L = []) := by
 refine cal2 (n := 27) Try.func28 rfl rfl rfl rfl ?_
 intro S0 σ0 n0 hn0 H
 unfold M.laws_eqItemS at h
 refine c_seq (rg (st (v := (B false)) (rv_assign rfl) (w_end (q_then (c_seq (c_seq (rg (st (v := (Sl Je Ah Jf)) (rv_move rfl) (st (v := (I (Ah.length : Int))) (rv_len Try.underlying23 rfl) (st (v := (Sl Ji Ai Jj)) (rv_move rfl) (st (v := (I (Ai.length : Int))) (rv_len Try.underlying23 rfl) ?_)))))))))))
 refine st (v := (B ((Ah.length : Int) != (Ai.length : Int)))) (rv_neq (a := (Ah.length : Int)) (b := (Ai.length : Int)) rfl rfl) (w_end (q_then ?_))
 refine cd_cond ((Ah.length : Int) != (Ai.length : Int)) rfl (fun hb1 => ?_) (fun hb1 => ?_)
 ·replace h := bif_t hb1 h
  refine c_seq (rg (st (v := (B false)) (rv_assign rfl) (w_end (q_then (c_ret (q_then_r ?_))))))
  obtain rfl := Option.some.inj h
  exact fin_ret (v := (B false)) (results_ok Try.results28 (res_tmp (v := (B false)) rfl res_nil) rfl) ⟨rfl, rfl⟩ (H.sel' [] rfl rfl)
 ·replace h := bif_f hb1 h
  refine c_skip (q_then (c_seq (c_seq (rg (st (v := (I 0)) (rv_assign rfl) (w_end (q_then ?_)))))))
  obtain ⟨o2, hj, h'⟩ := bind_some h
  clear h
  refine c_cut (fun e a w => (∃ t, o2 = (.inl t) ∧ e = .normal ∧ ∃ (ρ : Nat → Value) (σ : St), a = fr 27 (updL ρ []) ∧ w = σ.w ∧ Hp S0 σ0 σ []) ∨ (∃ t, o2 = (.inr t) ∧ e = .ret ∧ ∃ (ρ : Nat → Value) (σ : St), a = fr 27 (updL ρ [(4, (B t))]) ∧ w = σ.w ∧ Hp S0 σ0 σ [])) ?_ ?_
  ·clear h'
   rename _ = some o2 => h
   refine c_blk (wp_loopM _ h (fun s3 a w => ∃ (ρ : Nat → Value) (σ : St), a = fr 27 (updL ρ [(0, (Sl Je Ah Jf)), (1, (Sl Ji Ai Jj)), (5, (I s3))]) ∧ w = σ.w ∧ Hp S0 σ0 σ [Ch.ro 0 (Sl Je Ah Jf) Ah, Ch.ro 0 (Sl Ji Ai Jj) Ai]) ⟨_, σ0, fr_join ⟨rfl, rfl, rfl, trivial⟩, rfl, H.sel' [0, 1] rfl rfl⟩ ?_)
   clear h H
   rintro s3 a w o ⟨ρ, σ4, rfl, rfl, H⟩ h hres
   refine c_seq (c_seq (rg (st (v := (I s3)) (rv_move rfl) (st (v := (Sl Je Ah Jf)) (rv_move rfl) (st (v := (I (Ah.length : Int))) (rv_len Try.underlying23 rfl) (st (v := (B (decide (s3 < (Ah.length : Int))))) (rv_lss (a := s3) (b := (Ah.length : Int)) rfl rfl) (w_end (q_then ?_))))))))
   refine cd_cond (decide (s3 < (Ah.length : Int))) rfl (fun hb5 => ?_) (fun hb5 => ?_)
   ·replace h := bif_t hb5 h
    refine c_skip (q_then (c_seq (c_blk (c_seq ?_))))
    refine rgP (σ := σ4) 8 (by kernel_rfl) (by kernel_rfl) (by kernel_rfl) ?_
    refine sq (v := (Sl Je Ah Jf)) (rv_move rfl) (sq (v := (I s3)) (rv_move rfl) ?_)
    obtain ⟨x6, hx7, h'⟩ := bind_some h
    clear h
    have h := h'; clear h'
    obtain ⟨b9, o10, hi8, -⟩ := (H.ro 0 rfl).ix hx7
    refine sq (v := (pt b9 o10)) (rv_ix Try.underlying23 ti34 rfl rfl hi8) ?_
    obtain ⟨_, ⟨_, _, rfl, rfl, ⟨_, _, rfl, ⟨_, rfl, hR15⟩, rfl⟩⟩, hl11, hc12⟩ := ((H.ro 0 rfl).at hx7 hi8).cells
    obtain ⟨a13, c14, rfl⟩ := hR15.isSl
    replace H := H.add (d := Ch.ro 0 (Sl a13 x6.2.1 c14) x6.2.1) hR15 (fun _ h => h)
    clear hR15
    refine sq (v := (.agg #[(I x6.1), (Sl a13 x6.2.1 c14), (I x6.2.2)])) (rv_load Try.underlying34 rfl ti34 rfl hl11 hc12) (sq (v := (Sl Ji Ai Jj)) (rv_move rfl) (sq (v := (I s3)) (rv_move rfl) ?_))
    obtain ⟨x16, hx17, h'⟩ := bind_some h
    clear h
    have h := h'; clear h'
    obtain ⟨b19, o20, hi18, -⟩ := (H.ro 2 rfl).ix hx17
    refine sq (v := (pt b19 o20)) (rv_ix Try.underlying23 ti34 rfl rfl hi18) ?_
    obtain ⟨_, ⟨_, _, rfl, rfl, ⟨_, _, rfl, ⟨_, rfl, hR25⟩, rfl⟩⟩, hl21, hc22⟩ := ((H.ro 2 rfl).at hx17 hi18).cells
    obtain ⟨a23, c24, rfl⟩ := hR25.isSl
    replace H := H.add (d := Ch.ro 0 (Sl a23 x16.2.1 c24) x16.2.1) hR25 (fun _ h => h)
    clear hR25
    refine sq (v := (.agg #[(I x16.1), (Sl a23 x16.2.1 c24), (I x16.2.2)])) (rv_load Try.underlying34 rfl ti34 rfl hl21 hc22) (sq_end ?_)
    intro σ26 hm27
    replace H := H.grow (hm27.mono fun _ h => h); clear hm27
    obtain ⟨r28, hx29, h'⟩ := bind_some h
    clear h
    have h := h'; clear h'
    have hc30 := c_laws_eqItem (Jg := a13) (Jh := c14) (Jk := a23) (Jm := c24) hx29
    refine st_call (cx_call hc30 (ent_f hc30.fn rfl) hn0 (H.sel' [1, 0, 0, 1, 2, 3] rfl rfl : Hp S0 σ0 _ ([_, _] ++ _))) wn ?_
    rintro _ σ31 ⟨_, ⟨rfl, rfl⟩, H, -⟩
    replace H : Hp _ _ _ [_, _, _, _] := H
    refine st (v := (B (!r28))) (rv_not rfl) (w_end (q_then ?_))
    refine cd_cond (!r28) rfl (fun hb32 => ?_) (fun hb32 => ?_)
    ·replace h := bif_t hb32 h
     refine c_seq (rg (st (v := (B false)) (rv_assign rfl) (w_end (q_then (c_ret (q_blk_r (q_then_r (q_then_r (q_blk_r ?_)))))))))
     obtain rfl := Option.some.inj h
     obtain rfl := hres _ rfl
     exact .inr (⟨_, rfl, rfl, _, σ31, fr_join ⟨rfl, trivial⟩, rfl, H.sel' [] rfl rfl⟩)
    ·replace h := bif_f hb32 h
     refine c_skip (q_blk (q_then (rg (st (v := (I s3)) (rv_move rfl) (st (v := (I (w64 (s3 + 1)))) (rv_add (a := s3) (b := 1) rfl rfl) (st (v := (I (w64 (s3 + 1)))) (rv_assign rfl) (w_end (q_then ?_))))))))
     obtain rfl := Option.some.inj h
     exact ⟨_, rfl, _, σ31, fr_join ⟨rfl, rfl, rfl, trivial⟩, rfl, H.sel' [2, 3] rfl rfl⟩
   ·replace h := bif_f hb5 h
    refine c_exit (q_then_x (q_then_x (q_blk_hit ?_)))
    obtain rfl := Option.some.inj h
    obtain rfl := hres _ rfl
    exact .inl ⟨_, rfl, rfl, _, σ4, fr_join trivial, rfl, H.sel' [] rfl rfl⟩
  ·clear hj
   have h := h'
   clear h' H
   rintro e a w (⟨t33, rfl, rfl, ρ, σ34, rfl, rfl, H⟩ | ⟨t35, rfl, rfl, ρ, σ36, rfl, rfl, H⟩)
   ·replace h := selim_l h
    refine q_then (c_seq (rg (st (v := (B true)) (rv_assign rfl) (w_end (q_then (c_ret ?_))))))
    obtain rfl := Option.some.inj h
    exact fin_ret (v := (B true)) (results_ok Try.results28 (res_tmp (v := (B true)) rfl res_nil) rfl) ⟨rfl, rfl⟩ (H.sel' [] rfl rfl)
   ·replace h := selim_r h
    refine q_then_r ?_
    obtain rfl := Option.some.inj h
    exact fin_ret (v := (B t35)) (results_ok Try.results28 (res_tmp (v := (B t35)) rfl res_nil) rfl) ⟨rfl, rfl⟩ (H.sel' [] rfl rfl)

theorem c_laws_FnExactTreeVisits {Jn : List (Int × (List Int) × Int)} {Jo : Int} {Jp : List Int} {Jq : Int} {Jr : Option Addr} {Jt : Nat} {Ju : Option Addr} {Jv : Nat} {r : Bool} (h : M.laws_FnExactTreeVisits Jn Jo Jp Jq = some r) :
    Cal2 Try.prog 11 [(Sl Jr Jn Jt), (I Jo), (Sl Ju Jp Jv), (I Jq)] [Ch.ro 0 (Sl Jr Jn Jt) Jn, Ch.ro 0 (Sl Ju Jp Jv) Jp] (fun n0 v L => v = (B r) ∧ L = []) := by
 refine cal2 (n := 51) Try.func11 rfl rfl rfl rfl ?_
 intro S0 σ0 n0 hn0 H
 unfold M.laws_FnExactTreeVisits at h
 refine c_seq (rg (st (v := (B false)) (rv_assign rfl) (w_end (q_then (c_seq (c_seq (rg (st (v := (Sl Ju Jp Jv)) (rv_move rfl) (st (v := (I (Jp.length : Int))) (rv_len Try.underlying29 rfl) (st (v := (B (decide (1048576 < (Jp.length : Int))))) (rv_gtr (a := (Jp.length : Int)) (b := 1048576) rfl rfl) (w_end ?_)))))))))))
 refine q_then ?_
 refine cd_cond (decide (1048576 < (Jp.length : Int))) rfl (fun hb1 => ?_) (fun hb1 => ?_)
 ·replace h := bif_t hb1 h
  refine c_seq (rg (st (v := (B true)) (rv_assign rfl) (w_end (q_then (c_ret (q_then_r ?_))))))
  obtain rfl := Option.some.inj h
  exact fin_ret (v := (B true)) (results_ok Try.results11 (res_tmp (v := (B true)) rfl res_nil) rfl) ⟨rfl, rfl⟩ (H.sel' [] rfl rfl)
 ·replace h := bif_f hb1 h
  refine c_skip (q_then (c_seq (rg (st (v := (I 1048576)) (rv_assign rfl) (w_end (q_then (c_seq (rg (st (v := (Sl Jr Jn Jt)) (rv_move rfl) (st (v := (I 1048576)) (rv_move rfl) ?_))))))))))
  obtain ⟨r2, hx3, h'⟩ := bind_some h
  clear h
  have h := h'; clear h'
  have hc4 := c_laws_szItemS (Je := Jr) (Jf := Jt) hx3
  refine st_call (cx_call hc4 (ent_f hc4.fn rfl) hn0 (H.sel' [0, 0, 1] rfl rfl : Hp S0 σ0 _ ([_] ++ _))) wn ?_
  rintro _ σ5 ⟨_, ⟨rfl, rfl⟩, H, -⟩
  replace H : Hp _ _ _ [_, _] := H
  refine st (v := (I r2)) (rv_assign rfl) (w_end (q_then (c_seq (c_seq (rg (st (v := (I r2)) (rv_move rfl) (st (v := (B (decide (r2 < 0)))) (rv_lss (a := r2) (b := 0) rfl rfl) (w_end (q_then ?_)))))))))
  refine cd_cond (decide (r2 < 0)) rfl (fun hb6 => ?_) (fun hb6 => ?_)
  ·replace h := bif_t hb6 h
   refine c_seq (rg (st (v := (B true)) (rv_assign rfl) (w_end (q_then (c_ret (q_then_r ?_))))))
   obtain rfl := Option.some.inj h
   exact fin_ret (v := (B true)) (results_ok Try.results11 (res_tmp (v := (B true)) rfl res_nil) rfl) ⟨rfl, rfl⟩ (H.sel' [] rfl rfl)
  ·replace h := bif_f hb6 h
   refine c_skip (q_then (c_seq (rg (st (v := (Sl Jr Jn Jt)) (rv_move rfl) ?_))))
   obtain ⟨r7, hx8, h'⟩ := bind_some h
   clear h
   have h := h'; clear h'
   have hc9 := c_laws_toItemS (Je := Jr) (Jf := Jt) hx8
   refine st_call (cx_call hc9 (ent_f hc9.fn rfl) hn0 (H.sel' [0, 0, 1] rfl rfl : Hp S0 σ0 _ ([_] ++ _))) wn ?_
   rintro _ σ13 ⟨_, ⟨a10, c11, rfl, rfl, ht12⟩, H, -⟩
   replace H : Hp _ _ _ [_, _, _] := H
   refine st (v := (I Jo)) (rv_move rfl) (st (v := (Sl Ju Jp Jv)) (rv_move rfl) ?_)
   obtain ⟨r14, hx15, h'⟩ := bind_some h
   clear h
   have h := h'; clear h'
   have hc16 := c_laws_toIntS (Je := Ju) (Jf := Jv) hx15
   refine st_call (cx_call hc16 (ent_f hc16.fn rfl) hn0 (H.sel' [2, 0, 1, 2] rfl rfl : Hp S0 σ0 _ ([_] ++ _))) wn ?_
   rintro _ σ20 ⟨_, ⟨a17, c18, rfl, rfl, ht19⟩, H, -⟩
   replace H : Hp _ _ _ [_, _, _, _] := H
   refine st (v := (I Jq)) (rv_move rfl) ?_
   obtain ⟨σ21, hw22, H, -⟩ := H.pub 1 rfl (Nat.le_refl _)
   rw [← hw22]; clear hw22
   obtain ⟨σ23, hw24, H, -⟩ := H.pub 1 rfl (Nat.le_refl _)
   rw [← hw24]; clear hw24
   replace H := H.roLow 1 0 rfl (Nat.zero_le _)
   replace H := H.roLow 1 0 rfl (Nat.zero_le _)
   obtain ⟨r25, hx26, h'⟩ := bind_some h
   clear h
   have h := h'; clear h'
   have hc27 := c_spec_TreeVisits (Fu := a10) (Fv := c11) (Bj := a17) (Bk := c18) hx26
   refine st_call (cx_call hc27 (ent_f hc27.fn rfl) hn0 (H.sel' [1, 0, 0, 1, 2, 3, 4, 5] rfl rfl : Hp S0 σ0 _ ([_, _] ++ _))) wn ?_
   rintro _ σ28 ⟨_, ⟨rfl, rfl⟩, H, -⟩
   replace H : Hp _ _ _ [_, _, _, _, _, _] := H
   refine st (v := (I r25)) (rv_assign rfl) (w_end (q_then (c_seq (rg (st (v := (Sl Jr Jn Jt)) (rv_move rfl) ?_)))))
   obtain ⟨r29, hx30, h'⟩ := bind_some h
   clear h
   have h := h'; clear h'
   have hc31 := c_laws_toItemS (Je := Jr) (Jf := Jt) hx30
   refine st_call (cx_call hc31 (ent_f hc31.fn rfl) hn0 (H.sel' [4, 0, 1, 2, 3, 4, 5] rfl rfl : Hp S0 σ0 _ ([_] ++ _))) wn ?_
   rintro _ σ35 ⟨_, ⟨a32, c33, rfl, rfl, ht34⟩, H, -⟩
   replace H : Hp _ _ _ [_, _, _, _, _, _, _] := H
   refine st (v := (Sl a32 r29 c33)) (rv_assign rfl) (w_end (q_then (c_seq (rg (st (v := (Sl Ju Jp Jv)) (rv_move rfl) ?_)))))
   obtain ⟨r36, hx37, h'⟩ := bind_some h
   clear h
   have h := h'; clear h'
   have hc38 := c_laws_toIntS (Je := Ju) (Jf := Jv) hx37
   refine st_call (cx_call hc38 (ent_f hc38.fn rfl) hn0 (H.sel' [6, 0, 1, 2, 3, 4, 5, 6] rfl rfl : Hp S0 σ0 _ ([_] ++ _))) wn ?_
   rintro _ σ42 ⟨_, ⟨a39, c40, rfl, rfl, ht41⟩, H, -⟩
   replace H : Hp _ _ _ [_, _, _, _, _, _, _, _] := H
   replace H : Hp S0 σ0 σ42 [Ch.own n0 n0 (Sl a39 r36 c40) r36, Ch.own n0 n0 (Sl a32 r29 c33) r29, Ch.ro 0 (Sl Jr Jn Jt) Jn, Ch.ro 0 (Sl Ju Jp Jv) Jp] := H.sel' [0, 1, 6, 7] rfl rfl
   refine st (v := (Sl a39 r36 c40)) (rv_assign rfl) (w_end (q_then (c_seq (rg (st (v := (Sl a32 r29 c33)) (rv_move rfl) (st (v := (I Jo)) (rv_move rfl) (st (v := (Sl a39 r36 c40)) (rv_move rfl) (st (v := (I Jq)) (rv_move rfl) ?_))))))))
   obtain ⟨r43, hx44, h'⟩ := bind_some h
   clear h
   have h := h'; clear h'
   have hc45 := c_impl_TreeVisits (Fu := a32) (Fv := c33) (Bj := a39) (Bk := c40) hx44
   have hle := Nat.le_trans hn0 H.size
   refine st_call (cx_lend (Loan.lend (Loan.lend Loan.nil)) hc45 (ent_f hc45.fn rfl) (show Hp S0 σ0 _ ([Ch.own n0 n0 (Sl a32 r29 c33) r29, Ch.own n0 n0 (Sl a39 r36 c40) r36] ++ ([] ++ [Ch.ro 0 (Sl Jr Jn Jt) Jn, Ch.ro 0 (Sl Ju Jp Jv) Jp])) from (H.sel' [1, 0, 2, 3] rfl rfl)) (by rintro _ _ _ ⟨rfl, rfl⟩; exact trivial)) wn ?_
   rintro _ σ46 ⟨_, ⟨rfl, rfl⟩, H, -, -⟩
   replace H : Hp _ _ _ [_, _, _, _] := H
   clear hle
   replace H : Hp _ _ _ [_, _, _, _] := H
   refine st (v := (I r43)) (rv_assign rfl) (w_end (q_then (c_seq (c_seq (rg (st (v := (I r43)) (rv_move rfl) (st (v := (I r25)) (rv_move rfl) (st (v := (B (r43 != r25))) (rv_neq (a := r43) (b := r25) rfl rfl) (w_end (q_then ?_))))))))))
   refine cd_cond (r43 != r25) rfl (fun hb47 => ?_) (fun hb47 => ?_)
   ·replace h := bif_t hb47 h
    refine c_seq (rg (st (v := (B false)) (rv_assign rfl) (w_end (q_then (c_ret (q_then_r ?_))))))
    obtain rfl := Option.some.inj h
    exact fin_ret (v := (B false)) (results_ok Try.results11 (res_tmp (v := (B false)) rfl res_nil) rfl) ⟨rfl, rfl⟩ (H.sel' [] rfl rfl)
   ·replace h := bif_f hb47 h
    refine c_skip (q_then (c_seq (c_seq (rg (st (v := (Sl a32 r29 c33)) (rv_move rfl) (st (v := (Sl Jr Jn Jt)) (rv_move rfl) ?_))))))
    obtain ⟨r48, hx49, h'⟩ := bind_some h
    clear h
    have h := h'; clear h'
    have hc50 := c_laws_toItemS (Je := Jr) (Jf := Jt) hx49
    refine st_call (cx_call hc50 (ent_f hc50.fn rfl) hn0 (H.sel' [2, 0, 1, 2, 3] rfl rfl : Hp S0 σ0 _ ([_] ++ _))) wn ?_
    rintro _ σ54 ⟨_, ⟨a51, c52, rfl, rfl, ht53⟩, H, -⟩
    replace H : Hp _ _ _ [_, _, _, _, _] := H
    obtain ⟨σ55, hw56, H, -⟩ := H.pub 1 rfl (Nat.le_refl _)
    rw [← hw56]; clear hw56
    obtain ⟨σ57, hw58, H, -⟩ := H.pub 1 rfl (Nat.le_refl _)
    rw [← hw58]; clear hw58
    replace H := H.roLow 1 0 rfl (Nat.zero_le _)
    replace H := H.roLow 1 0 rfl (Nat.zero_le _)
    obtain ⟨r59, hx60, h'⟩ := bind_some h
    clear h
    have h := h'; clear h'
    have hc61 := c_laws_eqItemS (Je := a32) (Jf := c33) (Ji := a51) (Jj := c52) hx60
    refine st_call (cx_call hc61 (ent_f hc61.fn rfl) hn0 (H.sel' [1, 0, 0, 1, 2, 3, 4, 5, 6] rfl rfl : Hp S0 σ0 _ ([_, _] ++ _))) wn ?_
    rintro _ σ62 ⟨_, ⟨rfl, rfl⟩, H, -⟩
    replace H : Hp _ _ _ [_, _, _, _, _, _, _] := H
    refine st (v := (B (!r59))) (rv_not rfl) (w_end (q_then ?_))
    refine cd_cond (!r59) rfl (fun hb63 => ?_) (fun hb63 => ?_)
    ·replace h := bif_t hb63 h
     refine c_seq (rg (st (v := (B false)) (rv_assign rfl) (w_end (q_then (c_ret (q_then_r ?_))))))
     obtain rfl := Option.some.inj h
     exact fin_ret (v := (B false)) (results_ok Try.results11 (res_tmp (v := (B false)) rfl res_nil) rfl) ⟨rfl, rfl⟩ (H.sel' [] rfl rfl)
    ·replace h := bif_f hb63 h
     refine c_skip (q_then (c_seq (c_seq (rg (st (v := (Sl a39 r36 c40)) (rv_move rfl) (st (v := (Sl Ju Jp Jv)) (rv_move rfl) ?_))))))
     obtain ⟨r64, hx65, h'⟩ := bind_some h
     clear h
     have h := h'; clear h'
     have hc66 := c_laws_toIntS (Je := Ju) (Jf := Jv) hx65
     refine st_call (cx_call hc66 (ent_f hc66.fn rfl) hn0 (H.sel' [6, 0, 1, 2, 3, 4, 5, 6] rfl rfl : Hp S0 σ0 _ ([_] ++ _))) wn ?_
     rintro _ σ70 ⟨_, ⟨a67, c68, rfl, rfl, ht69⟩, H, -⟩
     replace H : Hp _ _ _ [_, _, _, _, _, _, _, _] := H
     replace H : Hp S0 σ0 σ70 [Ch.own n0 n0 (Sl a67 r64 c68) r64, Ch.own n0 n0 (Sl a39 r36 c40) r36] := H.sel' [0, 5] rfl rfl
     obtain ⟨σ71, hw72, H, -⟩ := H.pub 1 rfl (Nat.le_refl _)
     rw [← hw72]; clear hw72
     obtain ⟨σ73, hw74, H, -⟩ := H.pub 1 rfl (Nat.le_refl _)
     rw [← hw74]; clear hw74
     replace H := H.roLow 1 0 rfl (Nat.zero_le _)
     replace H := H.roLow 1 0 rfl (Nat.zero_le _)
     obtain ⟨r75, hx76, h'⟩ := bind_some h
     clear h
     have h := h'; clear h'
     have hc77 := c_laws_eqIntS (Je := a39) (Jf := c40) (Ji := a67) (Jj := c68) hx76
     refine st_call (cx_call hc77 (ent_f hc77.fn rfl) hn0 (H.sel' [1, 0, 0, 1, 2, 3] rfl rfl : Hp S0 σ0 _ ([_, _] ++ _))) wn ?_
     rintro _ σ78 ⟨_, ⟨rfl, rfl⟩, H, -⟩
     replace H : Hp _ _ _ [_, _, _, _] := H
     refine st (v := (B (!r75))) (rv_not rfl) (w_end (q_then ?_))
     refine cd_cond (!r75) rfl (fun hb79 => ?_) (fun hb79 => ?_)
     ·replace h := bif_t hb79 h
      refine c_seq (rg (st (v := (B false)) (rv_assign rfl) (w_end (q_then (c_ret (q_then_r ?_))))))
      obtain rfl := Option.some.inj h
      exact fin_ret (v := (B false)) (results_ok Try.results11 (res_tmp (v := (B false)) rfl res_nil) rfl) ⟨rfl, rfl⟩ (H.sel' [] rfl rfl)
     ·replace h := bif_f hb79 h
      refine c_skip (q_then (c_seq (rg (st (v := (B true)) (rv_assign rfl) (w_end (q_then (c_ret ?_)))))))
      obtain rfl := Option.some.inj h
      exact fin_ret (v := (B true)) (results_ok Try.results11 (res_tmp (v := (B true)) rfl res_nil) rfl) ⟨rfl, rfl⟩ (H.sel' [] rfl rfl)

end Go.Vs
