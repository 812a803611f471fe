/- The functions compute what their models say. -/
import Derived.Test.YtjcaokajkkkniabKExactEncodeVectorC1
set_option linter.unusedVariables false
set_option linter.unusedSimpArgs false
set_option maxRecDepth 20000
namespace Go.Vs
open Go Go.Proofs
attribute [local irreducible] Code.wp Code.wpIn wpList wpListIn wpQuiet Calls CallsIn

theorem c_laws_toIntS {a_0 : List Int} {aa_0 : Option Addr} {ca_0 : Nat} {r : (List Int)} (h : M.laws_toIntS a_0 = some r) :
    Cal2 Try.prog 37 [(Sl aa_0 a_0 ca_0)] [Ch.ro 0 (Sl aa_0 a_0 ca_0) a_0] (fun n0 v L => ∃ (az1 : Option Addr), ∃ (cz2 : Nat), v = (Sl az1 r cz2) ∧ L = [Ch.own n0 n0 (Sl az1 r cz2) r] ∧ cz2 = r.length) := by
 refine cal2 (n := 22) Try.func37 rfl rfl rfl rfl ?_
 intro S0 σ0 n0 hn0 H
 unfold M.laws_toIntS at h
 refine c_seq ?_
 refine rg ?_
 refine st (v := (.slice none 0 0)) (rv_assign rfl) ?_
 refine w_end ?_
 refine q_then ?_
 refine c_seq ?_
 refine rg ?_
 refine st (v := (Sl aa_0 a_0 ca_0)) (rv_move rfl) ?_
 refine st (v := (I (a_0.length : Int))) (rv_len Try.underlying29 rfl) ?_
 obtain ⟨xs1, hx2, h'⟩ := bind_some h
 clear h
 have h := h'; clear h'
 refine st_ex (ex_make (el := n0) (z0 := (0 : Int)) (zs := [(I 0)]) H hn0 Try.underlying29 ti3 rfl rfl rfl (by decide) hx2 rfl rfl) wn ?_
 rintro _ σ6 ⟨b3, c4, rfl, ht5, H, -⟩
 replace ht5 := ht5.trans (gmake_len hx2).symm
 refine st (v := (Sl (some ⟨b3, 0, none⟩) xs1 c4)) (rv_assign rfl) ?_
 refine w_end ?_
 refine q_then ?_
 refine c_seq ?_
 refine c_seq ?_
 refine rg ?_
 refine st (v := (I 0)) (rv_assign rfl) ?_
 refine w_end ?_
 refine q_then ?_
 obtain ⟨o7, hj, h'⟩ := bind_some h
 clear h
 refine c_cut (fun e a w => e = .normal ∧ ∃ (ρ : Nat → Value) (σ : St), a = fr 22 (updL ρ [(3, (Sl (some ⟨b3, 0, none⟩) o7 c4))]) ∧ w = σ.w ∧ Hp S0 σ0 σ [Ch.own n0 n0 (Sl (some ⟨b3, 0, none⟩) o7 c4) o7] ∧ c4 = o7.length ∧ o7.length = xs1.length) ?_ ?_
 ·clear h'
  rename _ = some o7 => h
  refine c_blk ?_
  refine wp_loopM _ h (fun s8 a w => ∃ (ρ : Nat → Value) (σ : St), a = fr 22 (updL ρ [(0, (Sl aa_0 a_0 ca_0)), (3, (Sl (some ⟨b3, 0, none⟩) s8.1 c4)), (4, (I s8.2))]) ∧ w = σ.w ∧ Hp S0 σ0 σ [Ch.ro 0 (Sl aa_0 a_0 ca_0) a_0, Ch.own n0 n0 (Sl (some ⟨b3, 0, none⟩) s8.1 c4) s8.1] ∧ c4 = s8.1.length ∧ s8.1.length = xs1.length) ⟨_, σ6, fr_join ⟨rfl, rfl, rfl, trivial⟩, rfl, H.sel' [1, 0] rfl rfl, ht5, rfl⟩ ?_
  clear h H
  rintro s8 a w o ⟨ρ, σ9, rfl, rfl, H, ht10, hn11⟩ h hres
  refine c_seq ?_
  refine c_seq ?_
  refine rg ?_
  refine st (v := (I s8.2)) (rv_move rfl) ?_
  refine st (v := (Sl aa_0 a_0 ca_0)) (rv_move rfl) ?_
  refine st (v := (I (a_0.length : Int))) (rv_len Try.underlying29 rfl) ?_
  refine st (v := (B (decide (s8.2 < (a_0.length : Int))))) (rv_lss (a := s8.2) (b := (a_0.length : Int)) rfl rfl) ?_
  refine w_end ?_
  refine q_then ?_
  refine cd_cond (decide (s8.2 < (a_0.length : Int))) rfl (fun hb12 => ?_) (fun hb12 => ?_)
  ·replace h := bif_t hb12 h
   refine c_skip ?_
   refine q_then ?_
   refine c_seq ?_
   refine c_blk ?_
   refine rg ?_
   refine st (v := (Sl (some ⟨b3, 0, none⟩) s8.1 c4)) (rv_move rfl) ?_
   refine st (v := (I s8.2)) (rv_move rfl) ?_
   refine st (v := (Sl aa_0 a_0 ca_0)) (rv_move rfl) ?_
   refine st (v := (I s8.2)) (rv_move rfl) ?_
   obtain ⟨x13, hx14, h'⟩ := bind_some h
   clear h
   have h := h'; clear h'
   obtain ⟨b16, o17, hi15, -⟩ := (H.ro 0 rfl).ix hx14
   refine st (v := (pt b16 o17)) (rv_ix Try.underlying29 ti3 rfl rfl hi15) ?_
   have hc18 := ((H.ro 0 rfl).at hx14 hi15).int
   refine st (v := (I x13)) (rv_load1 Try.underlying3 rfl rfl hc18) ?_
   obtain ⟨x19, hx20, h'⟩ := bind_some h
   clear h
   have h := h'; clear h'
   obtain ⟨b22, o23, hi21, -⟩ := (H.own 1 rfl).ix hx20
   refine st (v := (pt b22 o23)) (rv_ix Try.underlying29 ti3 rfl rfl hi21) ?_
   refine st_exS (ex_store_own (e' := x13) (vs := [(I x13)]) (k := 0) H (i := 1) rfl ti3 hx20 hi21 rfl rfl rfl rfl rfl (Nat.le_of_ble_eq_true rfl) (by simp [plain]) (by rintro _ rfl; exact rfl)) wn ?_
   rintro σ24 ⟨H, -⟩
   have hsl : (Sl (some ⟨b3, 0, none⟩) s8.1 c4) = (Sl (some ⟨b3, 0, none⟩) (s8.1.set s8.2.toNat x13) c4) := sl_len List.length_set.symm
   rw [hsl]; rw [hsl] at H; clear hsl
   refine w_end ?_
   refine q_blk ?_
   refine q_then ?_
   refine rg ?_
   refine st (v := (I s8.2)) (rv_move rfl) ?_
   refine st (v := (I (w64 (s8.2 + 1)))) (rv_add (a := s8.2) (b := 1) rfl rfl) ?_
   refine st (v := (I (w64 (s8.2 + 1)))) (rv_assign rfl) ?_
   refine w_end ?_
   refine q_then ?_
   obtain rfl := Option.some.inj h
   exact ⟨_, rfl, _, σ24, fr_join ⟨rfl, rfl, rfl, trivial⟩, rfl, H.sel' [1, 0] rfl rfl, (ht10.trans List.length_set.symm), (List.length_set.trans hn11)⟩
  ·replace h := bif_f hb12 h
   refine c_exit ?_
   refine q_then_x ?_
   refine q_then_x ?_
   refine q_blk_hit ?_
   obtain rfl := Option.some.inj h
   obtain rfl := hres _ rfl
   exact ⟨rfl, _, σ9, fr_join ⟨rfl, trivial⟩, rfl, H.sel' [1] rfl rfl, ht10, hn11⟩
 ·clear hj
  have h := h'
  clear h' H
  rintro e a w ⟨rfl, ρ, σ25, rfl, rfl, H, ht26, hn27⟩
  refine q_then ?_
  refine c_seq ?_
  refine rg ?_
  refine st (v := (Sl (some ⟨b3, 0, none⟩) o7 c4)) (rv_move rfl) ?_
  refine st (v := (Sl (some ⟨b3, 0, none⟩) o7 c4)) (rv_assign rfl) ?_
  refine w_end ?_
  refine q_then ?_
  refine c_ret ?_
  obtain rfl := Option.some.inj h
  exact fin_ret (v := (Sl (some ⟨b3, 0, none⟩) o7 c4)) (results_ok Try.results37 (res_tmp (v := (Sl (some ⟨b3, 0, none⟩) o7 c4)) rfl res_nil) rfl) ⟨(some ⟨b3, 0, none⟩), c4, rfl, rfl, ht26⟩ (H.sel' [0] rfl rfl)

theorem c_laws_toIntSS {a_0 : List (List Int)} {aa_0 : Option Addr} {ca_0 : Nat} {r : (List (List Int))} (h : M.laws_toIntSS a_0 = some r) :
    Cal2 Try.prog 70 [(Sl aa_0 a_0 ca_0)] [Ch.ro 0 (Sl aa_0 a_0 ca_0) a_0] (fun n0 v L => ∃ (az1 : Option Addr), ∃ (cz2 : Nat), v = (Sl az1 r cz2) ∧ L = [Ch.own n0 n0 (Sl az1 r cz2) r] ∧ cz2 = r.length) := by
 refine cal2 (n := 23) Try.func70 rfl rfl rfl rfl ?_
 intro S0 σ0 n0 hn0 H
 unfold M.laws_toIntSS at h
 refine c_seq ?_
 refine rg ?_
 refine st (v := (.slice none 0 0)) (rv_assign rfl) ?_
 refine w_end ?_
 refine q_then ?_
 refine c_seq ?_
 refine rg ?_
 refine st (v := (Sl aa_0 a_0 ca_0)) (rv_move rfl) ?_
 refine st (v := (I (a_0.length : Int))) (rv_len Try.underlying27 rfl) ?_
 obtain ⟨xs1, hx2, h'⟩ := bind_some h
 clear h
 have h := h'; clear h'
 refine st_ex (ex_make (el := n0) (z0 := ([] : List Int)) (zs := [(.slice none 0 0)]) H hn0 Try.underlying27 ti29 rfl rfl (⟨_, rfl, RS.nil⟩) (by decide) hx2 rfl rfl) wn ?_
 rintro _ σ6 ⟨b3, c4, rfl, ht5, H, -⟩
 replace ht5 := ht5.trans (gmake_len hx2).symm
 refine st (v := (Sl (some ⟨b3, 0, none⟩) xs1 c4)) (rv_assign rfl) ?_
 refine w_end ?_
 refine q_then ?_
 refine c_seq ?_
 refine c_seq ?_
 refine rg ?_
 refine st (v := (I 0)) (rv_assign rfl) ?_
 refine w_end ?_
 refine q_then ?_
 obtain ⟨o7, hj, h'⟩ := bind_some h
 clear h
 refine c_cut (fun e a w => e = .normal ∧ ∃ (ρ : Nat → Value) (σ : St), a = fr 23 (updL ρ [(3, (Sl (some ⟨b3, 0, none⟩) o7 c4))]) ∧ w = σ.w ∧ Hp S0 σ0 σ [Ch.own n0 n0 (Sl (some ⟨b3, 0, none⟩) o7 c4) o7] ∧ c4 = o7.length ∧ o7.length = xs1.length) ?_ ?_
 ·clear h'
  rename _ = some o7 => h
  refine c_blk ?_
  refine wp_loopM _ h (fun s8 a w => ∃ (ρ : Nat → Value) (σ : St), a = fr 23 (updL ρ [(0, (Sl aa_0 a_0 ca_0)), (3, (Sl (some ⟨b3, 0, none⟩) s8.1 c4)), (4, (I s8.2))]) ∧ w = σ.w ∧ Hp S0 σ0 σ [Ch.ro 0 (Sl aa_0 a_0 ca_0) a_0, Ch.own n0 n0 (Sl (some ⟨b3, 0, none⟩) s8.1 c4) s8.1] ∧ c4 = s8.1.length ∧ s8.1.length = xs1.length) ⟨_, σ6, fr_join ⟨rfl, rfl, rfl, trivial⟩, rfl, H.sel' [1, 0] rfl rfl, ht5, rfl⟩ ?_
  clear h H
  rintro s8 a w o ⟨ρ, σ9, rfl, rfl, H, ht10, hn11⟩ h hres
  refine c_seq ?_
  refine c_seq ?_
  refine rg ?_
  refine st (v := (I s8.2)) (rv_move rfl) ?_
  refine st (v := (Sl aa_0 a_0 ca_0)) (rv_move rfl) ?_
  refine st (v := (I (a_0.length : Int))) (rv_len Try.underlying27 rfl) ?_
  refine st (v := (B (decide (s8.2 < (a_0.length : Int))))) (rv_lss (a := s8.2) (b := (a_0.length : Int)) rfl rfl) ?_
  refine w_end ?_
  refine q_then ?_
  refine cd_cond (decide (s8.2 < (a_0.length : Int))) rfl (fun hb12 => ?_) (fun hb12 => ?_)
  ·replace h := bif_t hb12 h
   refine c_skip ?_
   refine q_then ?_
   refine c_seq ?_
   refine c_blk ?_
   refine rg ?_
   refine st (v := (Sl (some ⟨b3, 0, none⟩) s8.1 c4)) (rv_move rfl) ?_
   refine st (v := (I s8.2)) (rv_move rfl) ?_
   refine st (v := (Sl aa_0 a_0 ca_0)) (rv_move rfl) ?_
   refine st (v := (I s8.2)) (rv_move rfl) ?_
   obtain ⟨x13, hx14, h'⟩ := bind_some h
   clear h
   have h := h'; clear h'
   obtain ⟨b16, o17, hi15, -⟩ := (H.ro 0 rfl).ix hx14
   refine st (v := (pt b16 o17)) (rv_ix Try.underlying27 ti29 rfl rfl hi15) ?_
   obtain ⟨v21, hc22, hR20⟩ := ((H.ro 0 rfl).at hx14 hi15).slice
   obtain ⟨a18, c19, rfl⟩ := hR20.isSl
   replace H := H.add (d := Ch.ro 0 (Sl a18 x13 c19) x13) hR20 (fun _ h => h)
   clear hR20
   refine st (v := (Sl a18 x13 c19)) (rv_load1 Try.underlying29 rfl rfl hc22) ?_
   obtain ⟨r23, hx24, h'⟩ := bind_some h
   clear h
   have h := h'; clear h'
   have hc25 := c_laws_toIntS (aa_0 := a18) (ca_0 := c19) hx24
   refine st_call (cx_call hc25 (ent_f hc25.fn rfl) hn0 (show Hp S0 σ0 _ ([Ch.ro 0 (Sl a18 x13 c19) x13] ++ [Ch.ro 0 (Sl a18 x13 c19) x13, Ch.ro 0 (Sl aa_0 a_0 ca_0) a_0, Ch.own n0 n0 (Sl (some ⟨b3, 0, none⟩) s8.1 c4) s8.1]) from (H.sel' [0, 0, 1, 2] rfl rfl))) wn ?_
   rintro _ σ29 ⟨_, ⟨a26, c27, rfl, rfl, ht28⟩, H, -⟩
   replace H : Hp S0 σ0 σ29 [Ch.own n0 n0 (Sl a26 r23 c27) r23, Ch.ro 0 (Sl a18 x13 c19) x13, Ch.ro 0 (Sl aa_0 a_0 ca_0) a_0, Ch.own n0 n0 (Sl (some ⟨b3, 0, none⟩) s8.1 c4) s8.1] := H
   obtain ⟨x30, hx31, h'⟩ := bind_some h
   clear h
   have h := h'; clear h'
   obtain ⟨b33, o34, hi32, -⟩ := (H.own 3 rfl).ix hx31
   refine st (v := (pt b33 o34)) (rv_ix Try.underlying27 ti29 rfl rfl hi32) ?_
   obtain ⟨σ35, hw36, H, -⟩ := H.pub 0 rfl (Nat.le_refl _)
   rw [← hw36]; clear hw36
   refine st_exS (ex_store_own (e' := r23) (vs := [(Sl a26 r23 c27)]) (k := 0) H (i := 3) rfl ti29 hx31 hi32 rfl rfl rfl rfl rfl (Nat.le_of_ble_eq_true rfl) (by simp [plain]) (by rintro _ ⟨_, rfl, hR39⟩; exact ⟨_, rfl, (H.ro 0 rfl)⟩)) wn ?_
   rintro σ40 ⟨H, -⟩
   have hsl : (Sl (some ⟨b3, 0, none⟩) s8.1 c4) = (Sl (some ⟨b3, 0, none⟩) (s8.1.set s8.2.toNat r23) c4) := sl_len List.length_set.symm
   rw [hsl]; rw [hsl] at H; clear hsl
   refine w_end ?_
   refine q_blk ?_
   refine q_then ?_
   refine rg ?_
   refine st (v := (I s8.2)) (rv_move rfl) ?_
   refine st (v := (I (w64 (s8.2 + 1)))) (rv_add (a := s8.2) (b := 1) rfl rfl) ?_
   refine st (v := (I (w64 (s8.2 + 1)))) (rv_assign rfl) ?_
   refine w_end ?_
   refine q_then ?_
   obtain rfl := Option.some.inj h
   exact ⟨_, rfl, _, σ40, fr_join ⟨rfl, rfl, rfl, trivial⟩, rfl, H.sel' [3, 0] rfl rfl, (ht10.trans List.length_set.symm), (List.length_set.trans hn11)⟩
  ·replace h := bif_f hb12 h
   refine c_exit ?_
   refine q_then_x ?_
   refine q_then_x ?_
   refine q_blk_hit ?_
   obtain rfl := Option.some.inj h
   obtain rfl := hres _ rfl
   exact ⟨rfl, _, σ9, fr_join ⟨rfl, trivial⟩, rfl, H.sel' [1] rfl rfl, ht10, hn11⟩
 ·clear hj
  have h := h'
  clear h' H
  rintro e a w ⟨rfl, ρ, σ41, rfl, rfl, H, ht42, hn43⟩
  refine q_then ?_
  refine c_seq ?_
  refine rg ?_
  refine st (v := (Sl (some ⟨b3, 0, none⟩) o7 c4)) (rv_move rfl) ?_
  refine st (v := (Sl (some ⟨b3, 0, none⟩) o7 c4)) (rv_assign rfl) ?_
  refine w_end ?_
  refine q_then ?_
  refine c_ret ?_
  obtain rfl := Option.some.inj h
  exact fin_ret (v := (Sl (some ⟨b3, 0, none⟩) o7 c4)) (results_ok Try.results70 (res_tmp (v := (Sl (some ⟨b3, 0, none⟩) o7 c4)) rfl res_nil) rfl) ⟨(some ⟨b3, 0, none⟩), c4, rfl, rfl, ht42⟩ (H.sel' [0] rfl rfl)

theorem c_laws_toBook {a_0 : (List (List Int)) × (List (List Int))} {aa_0_0 : Option Addr} {ca_0_0 : Nat} {aa_0_1 : Option Addr} {ca_0_1 : Nat} {r : ((List (List Int)) × (List (List Int)))} (h : M.laws_toBook a_0 = some r) :
    Cal2 Try.prog 34 [(.agg #[(Sl aa_0_0 a_0.1 ca_0_0), (Sl aa_0_1 a_0.2 ca_0_1)])] [Ch.ro 0 (Sl aa_0_0 a_0.1 ca_0_0) a_0.1, Ch.ro 0 (Sl aa_0_1 a_0.2 ca_0_1) a_0.2] (fun n0 v L => ∃ (az1 : Option Addr), ∃ (cz2 : Nat), ∃ (az4 : Option Addr), ∃ (cz5 : Nat), v = (.agg #[(Sl az1 r.1 cz2), (Sl az4 r.2 cz5)]) ∧ L = [Ch.own n0 n0 (Sl az1 r.1 cz2) r.1, Ch.own n0 n0 (Sl az4 r.2 cz5) r.2] ∧ cz2 = r.1.length ∧ cz5 = r.2.length) := by
 refine cal2 (n := 13) Try.func34 rfl rfl rfl rfl ?_
 intro S0 σ0 n0 hn0 H
 unfold M.laws_toBook at h
 refine c_seq ?_
 refine rg ?_
 refine st_ex (ex_box (cs := [(Sl aa_0_0 a_0.1 ca_0_0), (Sl aa_0_1 a_0.2 ca_0_1)]) H hn0 rfl rfl) wn ?_
 rintro _ σ2 ⟨b1, rfl, H, -⟩
 refine st_ex (ex_alloc (cs := [(.slice none 0 0), (.slice none 0 0)]) H hn0 ti39 rfl) wn ?_
 rintro _ σ4 ⟨b3, rfl, H, -⟩
 refine w_end ?_
 refine q_then ?_
 refine c_seq ?_
 refine rg ?_
 refine st_ex (ex_alloc (cs := [(.slice none 0 0), (.slice none 0 0)]) H hn0 ti39 rfl) wn ?_
 rintro _ σ6 ⟨b5, rfl, H, -⟩
 refine w_end ?_
 refine q_then ?_
 refine c_seq ?_
 refine rg ?_
 refine st (v := (pt b1 0)) (rv_fieldAddr (off := 0) (ft := 27) Try.underlying49 rfl ti27 rfl rfl) ?_
 have hc7 := H.cell (u := (Sl aa_0_0 a_0.1 ca_0_0)) (o' := 0) 2 0 rfl rfl rfl
 refine st (v := (Sl aa_0_0 a_0.1 ca_0_0)) (rv_load1 Try.underlying27 rfl rfl hc7) ?_
 obtain ⟨r8, hx9, h'⟩ := bind_some h
 clear h
 have h := h'; clear h'
 have hc10 := c_laws_toIntSS (aa_0 := aa_0_0) (ca_0 := ca_0_0) hx9
 refine st_call (cx_call hc10 (ent_f hc10.fn rfl) hn0 (show Hp S0 σ0 _ ([Ch.ro 0 (Sl aa_0_0 a_0.1 ca_0_0) a_0.1] ++ [Ch.bx n0 b5 0 [(.slice none 0 0), (.slice none 0 0)] [] [], Ch.bx n0 b3 0 [(.slice none 0 0), (.slice none 0 0)] [] [], Ch.bx n0 b1 0 [(Sl aa_0_0 a_0.1 ca_0_0), (Sl aa_0_1 a_0.2 ca_0_1)] [] [], Ch.ro 0 (Sl aa_0_0 a_0.1 ca_0_0) a_0.1, Ch.ro 0 (Sl aa_0_1 a_0.2 ca_0_1) a_0.2]) from (H.sel' [3, 0, 1, 2, 3, 4] rfl rfl))) wn ?_
 rintro _ σ14 ⟨_, ⟨a11, c12, rfl, rfl, ht13⟩, H, -⟩
 replace H : Hp S0 σ0 σ14 [Ch.own n0 n0 (Sl a11 r8 c12) r8, Ch.bx n0 b5 0 [(.slice none 0 0), (.slice none 0 0)] [] [], Ch.bx n0 b3 0 [(.slice none 0 0), (.slice none 0 0)] [] [], Ch.bx n0 b1 0 [(Sl aa_0_0 a_0.1 ca_0_0), (Sl aa_0_1 a_0.2 ca_0_1)] [] [], Ch.ro 0 (Sl aa_0_0 a_0.1 ca_0_0) a_0.1, Ch.ro 0 (Sl aa_0_1 a_0.2 ca_0_1) a_0.2] := H
 refine st (v := (pt b5 0)) (rv_fieldAddr (off := 0) (ft := 27) Try.underlying39 rfl ti27 rfl rfl) ?_
 refine st_exS (ex_store_box (k := 0) (cs := [(.slice none 0 0), (.slice none 0 0)]) (vs := [(Sl a11 r8 c12)]) (cs' := [(Sl a11 r8 c12), (.slice none 0 0)]) H (i := 1) rfl ti27 rfl rfl rfl rfl rfl (Nat.le_of_ble_eq_true rfl) (by simp [plain]) rfl) wn ?_
 rintro σ15 ⟨H, -⟩
 refine w_end ?_
 refine q_then ?_
 refine c_seq ?_
 refine rg ?_
 refine st (v := (pt b1 1)) (rv_fieldAddr (off := 1) (ft := 27) Try.underlying49 rfl ti27 rfl rfl) ?_
 have hc16 := H.cell (u := (Sl aa_0_1 a_0.2 ca_0_1)) (o' := 1) 3 1 rfl rfl rfl
 refine st (v := (Sl aa_0_1 a_0.2 ca_0_1)) (rv_load1 Try.underlying27 rfl rfl hc16) ?_
 obtain ⟨r17, hx18, h'⟩ := bind_some h
 clear h
 have h := h'; clear h'
 have hc19 := c_laws_toIntSS (aa_0 := aa_0_1) (ca_0 := ca_0_1) hx18
 refine st_call (cx_call hc19 (ent_f hc19.fn rfl) hn0 (show Hp S0 σ0 _ ([Ch.ro 0 (Sl aa_0_1 a_0.2 ca_0_1) a_0.2] ++ [Ch.bx n0 b5 0 [(Sl a11 r8 c12), (.slice none 0 0)] [] [], Ch.own n0 n0 (Sl a11 r8 c12) r8, Ch.bx n0 b3 0 [(.slice none 0 0), (.slice none 0 0)] [] [], Ch.bx n0 b1 0 [(Sl aa_0_0 a_0.1 ca_0_0), (Sl aa_0_1 a_0.2 ca_0_1)] [] [], Ch.ro 0 (Sl aa_0_0 a_0.1 ca_0_0) a_0.1, Ch.ro 0 (Sl aa_0_1 a_0.2 ca_0_1) a_0.2]) from (H.sel' [5, 0, 1, 2, 3, 4, 5] rfl rfl))) wn ?_
 rintro _ σ23 ⟨_, ⟨a20, c21, rfl, rfl, ht22⟩, H, -⟩
 replace H : Hp S0 σ0 σ23 [Ch.own n0 n0 (Sl a20 r17 c21) r17, Ch.bx n0 b5 0 [(Sl a11 r8 c12), (.slice none 0 0)] [] [], Ch.own n0 n0 (Sl a11 r8 c12) r8, Ch.bx n0 b3 0 [(.slice none 0 0), (.slice none 0 0)] [] [], Ch.bx n0 b1 0 [(Sl aa_0_0 a_0.1 ca_0_0), (Sl aa_0_1 a_0.2 ca_0_1)] [] [], Ch.ro 0 (Sl aa_0_0 a_0.1 ca_0_0) a_0.1, Ch.ro 0 (Sl aa_0_1 a_0.2 ca_0_1) a_0.2] := H
 refine st (v := (pt b5 1)) (rv_fieldAddr (off := 1) (ft := 27) Try.underlying39 rfl ti27 rfl rfl) ?_
 refine st_exS (ex_store_box (k := 1) (cs := [(Sl a11 r8 c12), (.slice none 0 0)]) (vs := [(Sl a20 r17 c21)]) (cs' := [(Sl a11 r8 c12), (Sl a20 r17 c21)]) H (i := 1) rfl ti27 rfl rfl rfl rfl rfl (Nat.le_of_ble_eq_true rfl) (by simp [plain]) rfl) wn ?_
 rintro σ24 ⟨H, -⟩
 refine w_end ?_
 refine q_then ?_
 refine c_seq ?_
 refine rg ?_
 have hc25 := H.cells 0 rfl
 refine st (v := (.agg #[(Sl a11 r8 c12), (Sl a20 r17 c21)])) (rv_load (cs := [(Sl a11 r8 c12), (Sl a20 r17 c21)]) Try.underlying39 rfl ti39 rfl rfl hc25) ?_
 refine st_exS (ex_store_box (k := 0) (cs := [(.slice none 0 0), (.slice none 0 0)]) (vs := [(Sl a11 r8 c12), (Sl a20 r17 c21)]) (cs' := [(Sl a11 r8 c12), (Sl a20 r17 c21)]) H (i := 3) rfl ti39 rfl rfl rfl rfl rfl (Nat.le_of_ble_eq_true rfl) (by simp [plain]) rfl) wn ?_
 rintro σ26 ⟨H, -⟩
 refine w_end ?_
 refine q_then ?_
 refine c_ret ?_
 obtain rfl := Option.some.inj h
 exact fin_ret (v := (.agg #[(Sl a11 r8 c12), (Sl a20 r17 c21)])) (results_ok Try.results34 (res_cell rfl (run_cellRes (cs := [(Sl a11 r8 c12), (Sl a20 r17 c21)]) Try.underlying39 rfl ti39 rfl (H.cells 0 rfl)) res_nil) rfl) ⟨a11, c12, a20, c21, rfl, rfl, ht13, ht22⟩ (H.sel' [3, 2] rfl rfl)

theorem c_laws_eqIntS {a_0 : List Int} {b_1 : List Int} {aa_0 : Option Addr} {ca_0 : Nat} {ab_1 : Option Addr} {cb_1 : Nat} {r : Bool} (h : M.laws_eqIntS a_0 b_1 = some r) :
    Cal2 Try.prog 38 [(Sl aa_0 a_0 ca_0), (Sl ab_1 b_1 cb_1)] [Ch.ro 0 (Sl aa_0 a_0 ca_0) a_0, Ch.ro 0 (Sl ab_1 b_1 cb_1) b_1] (fun n0 v L => v = (B r) ∧ L = []) := by
 refine cal2 (n := 26) Try.func38 rfl rfl rfl rfl ?_
 intro S0 σ0 n0 hn0 H
 unfold M.laws_eqIntS at h
 refine c_seq ?_
 refine rg ?_
 refine st (v := (B false)) (rv_assign rfl) ?_
 refine w_end ?_
 refine q_then ?_
 refine c_seq ?_
 refine c_seq ?_
 refine rg ?_
 refine st (v := (Sl aa_0 a_0 ca_0)) (rv_move rfl) ?_
 refine st (v := (I (a_0.length : Int))) (rv_len Try.underlying29 rfl) ?_
 refine st (v := (Sl ab_1 b_1 cb_1)) (rv_move rfl) ?_
 refine st (v := (I (b_1.length : Int))) (rv_len Try.underlying29 rfl) ?_
 refine st (v := (B ((a_0.length : Int) != (b_1.length : Int)))) (rv_neq (a := (a_0.length : Int)) (b := (b_1.length : Int)) rfl rfl) ?_
 refine w_end ?_
 refine q_then ?_
 refine cd_cond ((a_0.length : Int) != (b_1.length : Int)) rfl (fun hb1 => ?_) (fun hb1 => ?_)
 ·replace h := bif_t hb1 h
  refine c_seq ?_
  refine rg ?_
  refine st (v := (B false)) (rv_assign rfl) ?_
  refine w_end ?_
  refine q_then ?_
  refine c_ret ?_
  refine q_then_r ?_
  obtain rfl := Option.some.inj h
  exact fin_ret (v := (B false)) (results_ok Try.results38 (res_tmp (v := (B false)) rfl res_nil) rfl) ⟨rfl, rfl⟩ (H.sel' [] rfl rfl)
 ·replace h := bif_f hb1 h
  refine c_skip ?_
  refine q_then ?_
  refine c_seq ?_
  refine c_seq ?_
  refine rg ?_
  refine st (v := (I 0)) (rv_assign rfl) ?_
  refine w_end ?_
  refine q_then ?_
  obtain ⟨o2, hj, h'⟩ := bind_some h
  clear h
  refine c_cut (fun e a w => (∃ t, o2 = (.inl t) ∧ e = .normal ∧ ∃ (ρ : Nat → Value) (σ : St), a = fr 26 (updL ρ []) ∧ w = σ.w ∧ Hp S0 σ0 σ []) ∨ (∃ t, o2 = (.inr t) ∧ e = .ret ∧ ∃ (ρ : Nat → Value) (σ : St), a = fr 26 (updL ρ [(4, (B t))]) ∧ w = σ.w ∧ Hp S0 σ0 σ [])) ?_ ?_
  ·clear h'
   rename _ = some o2 => h
   refine c_blk ?_
   refine wp_loopM _ h (fun s3 a w => ∃ (ρ : Nat → Value) (σ : St), a = fr 26 (updL ρ [(0, (Sl aa_0 a_0 ca_0)), (1, (Sl ab_1 b_1 cb_1)), (5, (I s3))]) ∧ w = σ.w ∧ Hp S0 σ0 σ [Ch.ro 0 (Sl aa_0 a_0 ca_0) a_0, Ch.ro 0 (Sl ab_1 b_1 cb_1) b_1]) ⟨_, σ0, fr_join ⟨rfl, rfl, rfl, trivial⟩, rfl, H.sel' [0, 1] rfl rfl⟩ ?_
   clear h H
   rintro s3 a w o ⟨ρ, σ4, rfl, rfl, H⟩ h hres
   refine c_seq ?_
   refine c_seq ?_
   refine rg ?_
   refine st (v := (I s3)) (rv_move rfl) ?_
   refine st (v := (Sl aa_0 a_0 ca_0)) (rv_move rfl) ?_
   refine st (v := (I (a_0.length : Int))) (rv_len Try.underlying29 rfl) ?_
   refine st (v := (B (decide (s3 < (a_0.length : Int))))) (rv_lss (a := s3) (b := (a_0.length : Int)) rfl rfl) ?_
   refine w_end ?_
   refine q_then ?_
   refine cd_cond (decide (s3 < (a_0.length : Int))) rfl (fun hb5 => ?_) (fun hb5 => ?_)
   ·replace h := bif_t hb5 h
    refine c_skip ?_
    refine q_then ?_
    refine c_seq ?_
    refine c_blk ?_
    refine c_seq ?_
    refine rgP (σ := σ4) 8 (by kernel_rfl) (by kernel_rfl) (by kernel_rfl) ?_
    refine sq (v := (Sl aa_0 a_0 ca_0)) (rv_move rfl) ?_
    refine sq (v := (I s3)) (rv_move rfl) ?_
    obtain ⟨x6, hx7, h'⟩ := bind_some h
    clear h
    have h := h'; clear h'
    obtain ⟨b9, o10, hi8, -⟩ := (H.ro 0 rfl).ix hx7
    refine sq (v := (pt b9 o10)) (rv_ix Try.underlying29 ti3 rfl rfl hi8) ?_
    have hc11 := ((H.ro 0 rfl).at hx7 hi8).int
    refine sq (v := (I x6)) (rv_load1 Try.underlying3 rfl rfl hc11) ?_
    refine sq (v := (Sl ab_1 b_1 cb_1)) (rv_move rfl) ?_
    refine sq (v := (I s3)) (rv_move rfl) ?_
    obtain ⟨x12, hx13, h'⟩ := bind_some h
    clear h
    have h := h'; clear h'
    obtain ⟨b15, o16, hi14, -⟩ := (H.ro 1 rfl).ix hx13
    refine sq (v := (pt b15 o16)) (rv_ix Try.underlying29 ti3 rfl rfl hi14) ?_
    have hc17 := ((H.ro 1 rfl).at hx13 hi14).int
    refine sq (v := (I x12)) (rv_load1 Try.underlying3 rfl rfl hc17) ?_
    refine sq_end ?_
    intro σ18 hm19
    replace H := H.grow (hm19.mono fun _ h => h); clear hm19
    refine st (v := (B (x6 != x12))) (rv_neq (a := x6) (b := x12) rfl rfl) ?_
    refine w_end ?_
    refine q_then ?_
    refine cd_cond (x6 != x12) rfl (fun hb20 => ?_) (fun hb20 => ?_)
    ·replace h := bif_t hb20 h
     refine c_seq ?_
     refine rg ?_
     refine st (v := (B false)) (rv_assign rfl) ?_
     refine w_end ?_
     refine q_then ?_
     refine c_ret ?_
     refine q_blk_r ?_
     refine q_then_r ?_
     refine q_then_r ?_
     refine q_blk_r ?_
     obtain rfl := Option.some.inj h
     obtain rfl := hres _ rfl
     exact .inr (⟨_, rfl, rfl, _, σ18, fr_join ⟨rfl, trivial⟩, rfl, H.sel' [] rfl rfl⟩)
    ·replace h := bif_f hb20 h
     refine c_skip ?_
     refine q_blk ?_
     refine q_then ?_
     refine rg ?_
     refine st (v := (I s3)) (rv_move rfl) ?_
     refine st (v := (I (w64 (s3 + 1)))) (rv_add (a := s3) (b := 1) rfl rfl) ?_
     refine st (v := (I (w64 (s3 + 1)))) (rv_assign rfl) ?_
     refine w_end ?_
     refine q_then ?_
     obtain rfl := Option.some.inj h
     exact ⟨_, rfl, _, σ18, fr_join ⟨rfl, rfl, rfl, trivial⟩, rfl, H.sel' [0, 1] rfl rfl⟩
   ·replace h := bif_f hb5 h
    refine c_exit ?_
    refine q_then_x ?_
    refine q_then_x ?_
    refine q_blk_hit ?_
    obtain rfl := Option.some.inj h
    obtain rfl := hres _ rfl
    exact .inl ⟨_, rfl, rfl, _, σ4, fr_join trivial, rfl, H.sel' [] rfl rfl⟩
  ·clear hj
   have h := h'
   clear h' H
   rintro e a w (⟨t21, rfl, rfl, ρ, σ22, rfl, rfl, H⟩ | ⟨t23, rfl, rfl, ρ, σ24, rfl, rfl, H⟩)
   ·replace h := selim_l h
    refine q_then ?_
    refine c_seq ?_
    refine rg ?_
    refine st (v := (B true)) (rv_assign rfl) ?_
    refine w_end ?_
    refine q_then ?_
    refine c_ret ?_
    obtain rfl := Option.some.inj h
    exact fin_ret (v := (B true)) (results_ok Try.results38 (res_tmp (v := (B true)) rfl res_nil) rfl) ⟨rfl, rfl⟩ (H.sel' [] rfl rfl)
   ·replace h := selim_r h
    refine q_then_r ?_
    obtain rfl := Option.some.inj h
    exact fin_ret (v := (B t23)) (results_ok Try.results38 (res_tmp (v := (B t23)) rfl res_nil) rfl) ⟨rfl, rfl⟩ (H.sel' [] rfl rfl)

theorem c_laws_eqIntSS {a_0 : List (List Int)} {b_1 : List (List Int)} {aa_0 : Option Addr} {ca_0 : Nat} {ab_1 : Option Addr} {cb_1 : Nat} {r : Bool} (h : M.laws_eqIntSS a_0 b_1 = some r) :
    Cal2 Try.prog 72 [(Sl aa_0 a_0 ca_0), (Sl ab_1 b_1 cb_1)] [Ch.ro 0 (Sl aa_0 a_0 ca_0) a_0, Ch.ro 0 (Sl ab_1 b_1 cb_1) b_1] (fun n0 v L => v = (B r) ∧ L = []) := by
 refine cal2 (n := 27) Try.func72 rfl rfl rfl rfl ?_
 intro S0 σ0 n0 hn0 H
 unfold M.laws_eqIntSS at h
 refine c_seq ?_
 refine rg ?_
 refine st (v := (B false)) (rv_assign rfl) ?_
 refine w_end ?_
 refine q_then ?_
 refine c_seq ?_
 refine c_seq ?_
 refine rg ?_
 refine st (v := (Sl aa_0 a_0 ca_0)) (rv_move rfl) ?_
 refine st (v := (I (a_0.length : Int))) (rv_len Try.underlying27 rfl) ?_
 refine st (v := (Sl ab_1 b_1 cb_1)) (rv_move rfl) ?_
 refine st (v := (I (b_1.length : Int))) (rv_len Try.underlying27 rfl) ?_
 refine st (v := (B ((a_0.length : Int) != (b_1.length : Int)))) (rv_neq (a := (a_0.length : Int)) (b := (b_1.length : Int)) rfl rfl) ?_
 refine w_end ?_
 refine q_then ?_
 refine cd_cond ((a_0.length : Int) != (b_1.length : Int)) rfl (fun hb1 => ?_) (fun hb1 => ?_)
 ·replace h := bif_t hb1 h
  refine c_seq ?_
  refine rg ?_
  refine st (v := (B false)) (rv_assign rfl) ?_
  refine w_end ?_
  refine q_then ?_
  refine c_ret ?_
  refine q_then_r ?_
  obtain rfl := Option.some.inj h
  exact fin_ret (v := (B false)) (results_ok Try.results72 (res_tmp (v := (B false)) rfl res_nil) rfl) ⟨rfl, rfl⟩ (H.sel' [] rfl rfl)
 ·replace h := bif_f hb1 h
  refine c_skip ?_
  refine q_then ?_
  refine c_seq ?_
  refine c_seq ?_
  refine rg ?_
  refine st (v := (I 0)) (rv_assign rfl) ?_
  refine w_end ?_
  refine q_then ?_
  obtain ⟨o2, hj, h'⟩ := bind_some h
  clear h
  refine c_cut (fun e a w => (∃ t, o2 = (.inl t) ∧ e = .normal ∧ ∃ (ρ : Nat → Value) (σ : St), a = fr 27 (updL ρ []) ∧ w = σ.w ∧ Hp S0 σ0 σ []) ∨ (∃ t, o2 = (.inr t) ∧ e = .ret ∧ ∃ (ρ : Nat → Value) (σ : St), a = fr 27 (updL ρ [(4, (B t))]) ∧ w = σ.w ∧ Hp S0 σ0 σ [])) ?_ ?_
  ·clear h'
   rename _ = some o2 => h
   refine c_blk ?_
   refine wp_loopM _ h (fun s3 a w => ∃ (ρ : Nat → Value) (σ : St), a = fr 27 (updL ρ [(0, (Sl aa_0 a_0 ca_0)), (1, (Sl ab_1 b_1 cb_1)), (5, (I s3))]) ∧ w = σ.w ∧ Hp S0 σ0 σ [Ch.ro 0 (Sl aa_0 a_0 ca_0) a_0, Ch.ro 0 (Sl ab_1 b_1 cb_1) b_1]) ⟨_, σ0, fr_join ⟨rfl, rfl, rfl, trivial⟩, rfl, H.sel' [0, 1] rfl rfl⟩ ?_
   clear h H
   rintro s3 a w o ⟨ρ, σ4, rfl, rfl, H⟩ h hres
   refine c_seq ?_
   refine c_seq ?_
   refine rg ?_
   refine st (v := (I s3)) (rv_move rfl) ?_
   refine st (v := (Sl aa_0 a_0 ca_0)) (rv_move rfl) ?_
   refine st (v := (I (a_0.length : Int))) (rv_len Try.underlying27 rfl) ?_
   refine st (v := (B (decide (s3 < (a_0.length : Int))))) (rv_lss (a := s3) (b := (a_0.length : Int)) rfl rfl) ?_
   refine w_end ?_
   refine q_then ?_
   refine cd_cond (decide (s3 < (a_0.length : Int))) rfl (fun hb5 => ?_) (fun hb5 => ?_)
   ·replace h := bif_t hb5 h
    refine c_skip ?_
    refine q_then ?_
    refine c_seq ?_
    refine c_blk ?_
    refine c_seq ?_
    refine rgP (σ := σ4) 8 (by kernel_rfl) (by kernel_rfl) (by kernel_rfl) ?_
    refine sq (v := (Sl aa_0 a_0 ca_0)) (rv_move rfl) ?_
    refine sq (v := (I s3)) (rv_move rfl) ?_
    obtain ⟨x6, hx7, h'⟩ := bind_some h
    clear h
    have h := h'; clear h'
    obtain ⟨b9, o10, hi8, -⟩ := (H.ro 0 rfl).ix hx7
    refine sq (v := (pt b9 o10)) (rv_ix Try.underlying27 ti29 rfl rfl hi8) ?_
    obtain ⟨v14, hc15, hR13⟩ := ((H.ro 0 rfl).at hx7 hi8).slice
    obtain ⟨a11, c12, rfl⟩ := hR13.isSl
    replace H := H.add (d := Ch.ro 0 (Sl a11 x6 c12) x6) hR13 (fun _ h => h)
    clear hR13
    refine sq (v := (Sl a11 x6 c12)) (rv_load1 Try.underlying29 rfl rfl hc15) ?_
    refine sq (v := (Sl ab_1 b_1 cb_1)) (rv_move rfl) ?_
    refine sq (v := (I s3)) (rv_move rfl) ?_
    obtain ⟨x16, hx17, h'⟩ := bind_some h
    clear h
    have h := h'; clear h'
    obtain ⟨b19, o20, hi18, -⟩ := (H.ro 2 rfl).ix hx17
    refine sq (v := (pt b19 o20)) (rv_ix Try.underlying27 ti29 rfl rfl hi18) ?_
    obtain ⟨v24, hc25, hR23⟩ := ((H.ro 2 rfl).at hx17 hi18).slice
    obtain ⟨a21, c22, rfl⟩ := hR23.isSl
    replace H := H.add (d := Ch.ro 0 (Sl a21 x16 c22) x16) hR23 (fun _ h => h)
    clear hR23
    refine sq (v := (Sl a21 x16 c22)) (rv_load1 Try.underlying29 rfl rfl hc25) ?_
    refine sq_end ?_
    intro σ26 hm27
    replace H := H.grow (hm27.mono fun _ h => h); clear hm27
    obtain ⟨r28, hx29, h'⟩ := bind_some h
    clear h
    have h := h'; clear h'
    have hc30 := c_laws_eqIntS (aa_0 := a11) (ca_0 := c12) (ab_1 := a21) (cb_1 := c22) hx29
    refine st_call (cx_call hc30 (ent_f hc30.fn rfl) hn0 (show Hp S0 σ0 _ ([Ch.ro 0 (Sl a11 x6 c12) x6, Ch.ro 0 (Sl a21 x16 c22) x16] ++ [Ch.ro 0 (Sl a21 x16 c22) x16, Ch.ro 0 (Sl a11 x6 c12) x6, Ch.ro 0 (Sl aa_0 a_0 ca_0) a_0, Ch.ro 0 (Sl ab_1 b_1 cb_1) b_1]) from (H.sel' [1, 0, 0, 1, 2, 3] rfl rfl))) wn ?_
    rintro _ σ31 ⟨_, ⟨rfl, rfl⟩, H, -⟩
    replace H : Hp S0 σ0 σ31 [Ch.ro 0 (Sl a21 x16 c22) x16, Ch.ro 0 (Sl a11 x6 c12) x6, Ch.ro 0 (Sl aa_0 a_0 ca_0) a_0, Ch.ro 0 (Sl ab_1 b_1 cb_1) b_1] := H
    refine st (v := (B (!r28))) (rv_not rfl) ?_
    refine w_end ?_
    refine q_then ?_
    refine cd_cond (!r28) rfl (fun hb32 => ?_) (fun hb32 => ?_)
    ·replace h := bif_t hb32 h
     refine c_seq ?_
     refine rg ?_
     refine st (v := (B false)) (rv_assign rfl) ?_
     refine w_end ?_
     refine q_then ?_
     refine c_ret ?_
     refine q_blk_r ?_
     refine q_then_r ?_
     refine q_then_r ?_
     refine q_blk_r ?_
     obtain rfl := Option.some.inj h
     obtain rfl := hres _ rfl
     exact .inr (⟨_, rfl, rfl, _, σ31, fr_join ⟨rfl, trivial⟩, rfl, H.sel' [] rfl rfl⟩)
    ·replace h := bif_f hb32 h
     refine c_skip ?_
     refine q_blk ?_
     refine q_then ?_
     refine rg ?_
     refine st (v := (I s3)) (rv_move rfl) ?_
     refine st (v := (I (w64 (s3 + 1)))) (rv_add (a := s3) (b := 1) rfl rfl) ?_
     refine st (v := (I (w64 (s3 + 1)))) (rv_assign rfl) ?_
     refine w_end ?_
     refine q_then ?_
     obtain rfl := Option.some.inj h
     exact ⟨_, rfl, _, σ31, fr_join ⟨rfl, rfl, rfl, trivial⟩, rfl, H.sel' [2, 3] rfl rfl⟩
   ·replace h := bif_f hb5 h
    refine c_exit ?_
    refine q_then_x ?_
    refine q_then_x ?_
    refine q_blk_hit ?_
    obtain rfl := Option.some.inj h
    obtain rfl := hres _ rfl
    exact .inl ⟨_, rfl, rfl, _, σ4, fr_join trivial, rfl, H.sel' [] rfl rfl⟩
  ·clear hj
   have h := h'
   clear h' H
   rintro e a w (⟨t33, rfl, rfl, ρ, σ34, rfl, rfl, H⟩ | ⟨t35, rfl, rfl, ρ, σ36, rfl, rfl, H⟩)
   ·replace h := selim_l h
    refine q_then ?_
    refine c_seq ?_
    refine rg ?_
    refine st (v := (B true)) (rv_assign rfl) ?_
    refine w_end ?_
    refine q_then ?_
    refine c_ret ?_
    obtain rfl := Option.some.inj h
    exact fin_ret (v := (B true)) (results_ok Try.results72 (res_tmp (v := (B true)) rfl res_nil) rfl) ⟨rfl, rfl⟩ (H.sel' [] rfl rfl)
   ·replace h := selim_r h
    refine q_then_r ?_
    obtain rfl := Option.some.inj h
    exact fin_ret (v := (B t35)) (results_ok Try.results72 (res_tmp (v := (B t35)) rfl res_nil) rfl) ⟨rfl, rfl⟩ (H.sel' [] rfl rfl)

theorem c_laws_eqBook {a_0 : (List (List Int)) × (List (List Int))} {b_1 : (List (List Int)) × (List (List Int))} {aa_0_0 : Option Addr} {ca_0_0 : Nat} {aa_0_1 : Option Addr} {ca_0_1 : Nat} {ab_1_0 : Option Addr} {cb_1_0 : Nat} {ab_1_1 : Option Addr} {cb_1_1 : Nat} {r : Bool} (h : M.laws_eqBook a_0 b_1 = some r) :
    Cal2 Try.prog 36 [(.agg #[(Sl aa_0_0 a_0.1 ca_0_0), (Sl aa_0_1 a_0.2 ca_0_1)]), (.agg #[(Sl ab_1_0 b_1.1 cb_1_0), (Sl ab_1_1 b_1.2 cb_1_1)])] [Ch.ro 0 (Sl aa_0_0 a_0.1 ca_0_0) a_0.1, Ch.ro 0 (Sl aa_0_1 a_0.2 ca_0_1) a_0.2, Ch.ro 0 (Sl ab_1_0 b_1.1 cb_1_0) b_1.1, Ch.ro 0 (Sl ab_1_1 b_1.2 cb_1_1) b_1.2] (fun n0 v L => v = (B r) ∧ L = []) := by
 refine cal2 (n := 17) Try.func36 rfl rfl rfl rfl ?_
 intro S0 σ0 n0 hn0 H
 unfold M.laws_eqBook at h
 refine c_seq ?_
 refine rg ?_
 refine st_ex (ex_box (cs := [(Sl aa_0_0 a_0.1 ca_0_0), (Sl aa_0_1 a_0.2 ca_0_1)]) H hn0 rfl rfl) wn ?_
 rintro _ σ2 ⟨b1, rfl, H, -⟩
 refine st_ex (ex_box (cs := [(Sl ab_1_0 b_1.1 cb_1_0), (Sl ab_1_1 b_1.2 cb_1_1)]) H hn0 rfl rfl) wn ?_
 rintro _ σ4 ⟨b3, rfl, H, -⟩
 refine st (v := (B false)) (rv_assign rfl) ?_
 refine w_end ?_
 refine q_then ?_
 refine c_seq ?_
 refine c_seq ?_
 refine rg ?_
 refine st (v := (pt b1 0)) (rv_fieldAddr (off := 0) (ft := 27) Try.underlying39 rfl ti27 rfl rfl) ?_
 have hc5 := H.cell (u := (Sl aa_0_0 a_0.1 ca_0_0)) (o' := 0) 1 0 rfl rfl rfl
 refine st (v := (Sl aa_0_0 a_0.1 ca_0_0)) (rv_load1 Try.underlying27 rfl rfl hc5) ?_
 refine st (v := (pt b3 0)) (rv_fieldAddr (off := 0) (ft := 27) Try.underlying39 rfl ti27 rfl rfl) ?_
 have hc6 := H.cell (u := (Sl ab_1_0 b_1.1 cb_1_0)) (o' := 0) 0 0 rfl rfl rfl
 refine st (v := (Sl ab_1_0 b_1.1 cb_1_0)) (rv_load1 Try.underlying27 rfl rfl hc6) ?_
 obtain ⟨r7, hx8, h'⟩ := bind_some h
 clear h
 have h := h'; clear h'
 have hc9 := c_laws_eqIntSS (aa_0 := aa_0_0) (ca_0 := ca_0_0) (ab_1 := ab_1_0) (cb_1 := cb_1_0) hx8
 refine st_call (cx_call hc9 (ent_f hc9.fn rfl) hn0 (show Hp S0 σ0 _ ([Ch.ro 0 (Sl aa_0_0 a_0.1 ca_0_0) a_0.1, Ch.ro 0 (Sl ab_1_0 b_1.1 cb_1_0) b_1.1] ++ [Ch.bx n0 b3 0 [(Sl ab_1_0 b_1.1 cb_1_0), (Sl ab_1_1 b_1.2 cb_1_1)] [] [], Ch.bx n0 b1 0 [(Sl aa_0_0 a_0.1 ca_0_0), (Sl aa_0_1 a_0.2 ca_0_1)] [] [], Ch.ro 0 (Sl aa_0_0 a_0.1 ca_0_0) a_0.1, Ch.ro 0 (Sl aa_0_1 a_0.2 ca_0_1) a_0.2, Ch.ro 0 (Sl ab_1_0 b_1.1 cb_1_0) b_1.1, Ch.ro 0 (Sl ab_1_1 b_1.2 cb_1_1) b_1.2]) from (H.sel' [2, 4, 0, 1, 2, 3, 4, 5] rfl rfl))) wn ?_
 rintro _ σ10 ⟨_, ⟨rfl, rfl⟩, H, -⟩
 replace H : Hp S0 σ0 σ10 [Ch.bx n0 b3 0 [(Sl ab_1_0 b_1.1 cb_1_0), (Sl ab_1_1 b_1.2 cb_1_1)] [] [], Ch.bx n0 b1 0 [(Sl aa_0_0 a_0.1 ca_0_0), (Sl aa_0_1 a_0.2 ca_0_1)] [] [], Ch.ro 0 (Sl aa_0_0 a_0.1 ca_0_0) a_0.1, Ch.ro 0 (Sl aa_0_1 a_0.2 ca_0_1) a_0.2, Ch.ro 0 (Sl ab_1_0 b_1.1 cb_1_0) b_1.1, Ch.ro 0 (Sl ab_1_1 b_1.2 cb_1_1) b_1.2] := H
 refine st (v := (B (!r7))) (rv_not rfl) ?_
 refine w_end ?_
 refine q_then ?_
 refine cd_cond (!r7) rfl (fun hb11 => ?_) (fun hb11 => ?_)
 ·replace h := bif_t hb11 h
  refine c_seq ?_
  refine rg ?_
  refine st (v := (B false)) (rv_assign rfl) ?_
  refine w_end ?_
  refine q_then ?_
  refine c_ret ?_
  refine q_then_r ?_
  obtain rfl := Option.some.inj h
  exact fin_ret (v := (B false)) (results_ok Try.results36 (res_tmp (v := (B false)) rfl res_nil) rfl) ⟨rfl, rfl⟩ (H.sel' [] rfl rfl)
 ·replace h := bif_f hb11 h
  refine c_skip ?_
  refine q_then ?_
  refine c_seq ?_
  refine c_seq ?_
  refine rg ?_
  refine st (v := (pt b1 1)) (rv_fieldAddr (off := 1) (ft := 27) Try.underlying39 rfl ti27 rfl rfl) ?_
  have hc12 := H.cell (u := (Sl aa_0_1 a_0.2 ca_0_1)) (o' := 1) 1 1 rfl rfl rfl
  refine st (v := (Sl aa_0_1 a_0.2 ca_0_1)) (rv_load1 Try.underlying27 rfl rfl hc12) ?_
  refine st (v := (pt b3 1)) (rv_fieldAddr (off := 1) (ft := 27) Try.underlying39 rfl ti27 rfl rfl) ?_
  have hc13 := H.cell (u := (Sl ab_1_1 b_1.2 cb_1_1)) (o' := 1) 0 1 rfl rfl rfl
  refine st (v := (Sl ab_1_1 b_1.2 cb_1_1)) (rv_load1 Try.underlying27 rfl rfl hc13) ?_
  obtain ⟨r14, hx15, h'⟩ := bind_some h
  clear h
  have h := h'; clear h'
  have hc16 := c_laws_eqIntSS (aa_0 := aa_0_1) (ca_0 := ca_0_1) (ab_1 := ab_1_1) (cb_1 := cb_1_1) hx15
  refine st_call (cx_call hc16 (ent_f hc16.fn rfl) hn0 (show Hp S0 σ0 _ ([Ch.ro 0 (Sl aa_0_1 a_0.2 ca_0_1) a_0.2, Ch.ro 0 (Sl ab_1_1 b_1.2 cb_1_1) b_1.2] ++ [Ch.bx n0 b3 0 [(Sl ab_1_0 b_1.1 cb_1_0), (Sl ab_1_1 b_1.2 cb_1_1)] [] [], Ch.bx n0 b1 0 [(Sl aa_0_0 a_0.1 ca_0_0), (Sl aa_0_1 a_0.2 ca_0_1)] [] [], Ch.ro 0 (Sl aa_0_0 a_0.1 ca_0_0) a_0.1, Ch.ro 0 (Sl aa_0_1 a_0.2 ca_0_1) a_0.2, Ch.ro 0 (Sl ab_1_0 b_1.1 cb_1_0) b_1.1, Ch.ro 0 (Sl ab_1_1 b_1.2 cb_1_1) b_1.2]) from (H.sel' [3, 5, 0, 1, 2, 3, 4, 5] rfl rfl))) wn ?_
  rintro _ σ17 ⟨_, ⟨rfl, rfl⟩, H, -⟩
  replace H : Hp S0 σ0 σ17 [Ch.bx n0 b3 0 [(Sl ab_1_0 b_1.1 cb_1_0), (Sl ab_1_1 b_1.2 cb_1_1)] [] [], Ch.bx n0 b1 0 [(Sl aa_0_0 a_0.1 ca_0_0), (Sl aa_0_1 a_0.2 ca_0_1)] [] [], Ch.ro 0 (Sl aa_0_0 a_0.1 ca_0_0) a_0.1, Ch.ro 0 (Sl aa_0_1 a_0.2 ca_0_1) a_0.2, Ch.ro 0 (Sl ab_1_0 b_1.1 cb_1_0) b_1.1, Ch.ro 0 (Sl ab_1_1 b_1.2 cb_1_1) b_1.2] := H
  refine st (v := (B (!r14))) (rv_not rfl) ?_
  refine w_end ?_
  refine q_then ?_
  refine cd_cond (!r14) rfl (fun hb18 => ?_) (fun hb18 => ?_)
  ·replace h := bif_t hb18 h
   refine c_seq ?_
   refine rg ?_
   refine st (v := (B false)) (rv_assign rfl) ?_
   refine w_end ?_
   refine q_then ?_
   refine c_ret ?_
   refine q_then_r ?_
   obtain rfl := Option.some.inj h
   exact fin_ret (v := (B false)) (results_ok Try.results36 (res_tmp (v := (B false)) rfl res_nil) rfl) ⟨rfl, rfl⟩ (H.sel' [] rfl rfl)
  ·replace h := bif_f hb18 h
   refine c_skip ?_
   refine q_then ?_
   refine c_seq ?_
   refine rg ?_
   refine st (v := (B true)) (rv_assign rfl) ?_
   refine w_end ?_
   refine q_then ?_
   refine c_ret ?_
   obtain rfl := Option.some.inj h
   exact fin_ret (v := (B true)) (results_ok Try.results36 (res_tmp (v := (B true)) rfl res_nil) rfl) ⟨rfl, rfl⟩ (H.sel' [] rfl rfl)

theorem c_laws_FnExactEncodeVector {aB_0 : (List (List Int)) × (List (List Int))} {aAt_1 : List Int} {aaB_0_0 : Option Addr} {caB_0_0 : Nat} {aaB_0_1 : Option Addr} {caB_0_1 : Nat} {aaAt_1 : Option Addr} {caAt_1 : Nat} {r : Bool} (h : M.laws_FnExactEncodeVector aB_0 aAt_1 = some r) :
    Cal2 Try.prog 12 [(.agg #[(Sl aaB_0_0 aB_0.1 caB_0_0), (Sl aaB_0_1 aB_0.2 caB_0_1)]), (Sl aaAt_1 aAt_1 caAt_1)] [Ch.ro 0 (Sl aaB_0_0 aB_0.1 caB_0_0) aB_0.1, Ch.ro 0 (Sl aaB_0_1 aB_0.2 caB_0_1) aB_0.2, Ch.ro 0 (Sl aaAt_1 aAt_1 caAt_1) aAt_1] (fun n0 v L => v = (B r) ∧ L = []) := by
 refine cal2 (n := 43) Try.func12 rfl rfl rfl rfl ?_
 intro S0 σ0 n0 hn0 H
 unfold M.laws_FnExactEncodeVector at h
 refine c_seq ?_
 refine rg ?_
 refine st_ex (ex_box (cs := [(Sl aaB_0_0 aB_0.1 caB_0_0), (Sl aaB_0_1 aB_0.2 caB_0_1)]) H hn0 rfl rfl) wn ?_
 rintro _ σ2 ⟨b1, rfl, H, -⟩
 refine st (v := (B false)) (rv_assign rfl) ?_
 refine w_end ?_
 refine q_then ?_
 refine c_seq ?_
 refine c_seq ?_
 refine rg ?_
 refine st (v := (Sl aaAt_1 aAt_1 caAt_1)) (rv_move rfl) ?_
 refine st (v := (I (aAt_1.length : Int))) (rv_len Try.underlying29 rfl) ?_
 refine st (v := (B (decide (1048576 < (aAt_1.length : Int))))) (rv_gtr (a := (aAt_1.length : Int)) (b := 1048576) rfl rfl) ?_
 refine w_end ?_
 refine q_then ?_
 refine cd_cond (decide (1048576 < (aAt_1.length : Int))) rfl (fun hb3 => ?_) (fun hb3 => ?_)
 ·replace h := bif_t hb3 h
  refine c_seq ?_
  refine rg ?_
  refine st (v := (B true)) (rv_assign rfl) ?_
  refine w_end ?_
  refine q_then ?_
  refine c_ret ?_
  refine q_then_r ?_
  obtain rfl := Option.some.inj h
  exact fin_ret (v := (B true)) (results_ok Try.results12 (res_tmp (v := (B true)) rfl res_nil) rfl) ⟨rfl, rfl⟩ (H.sel' [] rfl rfl)
 ·replace h := bif_f hb3 h
  refine c_skip ?_
  refine q_then ?_
  refine c_seq ?_
  refine rg ?_
  refine st (v := (I 1048576)) (rv_assign rfl) ?_
  refine w_end ?_
  refine q_then ?_
  refine c_seq ?_
  refine rg ?_
  have hc4 := H.cells 0 rfl
  refine st (v := (.agg #[(Sl aaB_0_0 aB_0.1 caB_0_0), (Sl aaB_0_1 aB_0.2 caB_0_1)])) (rv_load (cs := [(Sl aaB_0_0 aB_0.1 caB_0_0), (Sl aaB_0_1 aB_0.2 caB_0_1)]) Try.underlying49 rfl ti49 rfl rfl hc4) ?_
  refine st (v := (I 1048576)) (rv_move rfl) ?_
  obtain ⟨r5, hx6, h'⟩ := bind_some h
  clear h
  have h := h'; clear h'
  have hc7 := c_laws_szBook (aa_0_0 := aaB_0_0) (ca_0_0 := caB_0_0) (aa_0_1 := aaB_0_1) (ca_0_1 := caB_0_1) hx6
  refine st_call (cx_call hc7 (ent_f hc7.fn rfl) hn0 (show Hp S0 σ0 _ ([Ch.ro 0 (Sl aaB_0_0 aB_0.1 caB_0_0) aB_0.1, Ch.ro 0 (Sl aaB_0_1 aB_0.2 caB_0_1) aB_0.2] ++ [Ch.bx n0 b1 0 [(Sl aaB_0_0 aB_0.1 caB_0_0), (Sl aaB_0_1 aB_0.2 caB_0_1)] [] [], Ch.ro 0 (Sl aaB_0_0 aB_0.1 caB_0_0) aB_0.1, Ch.ro 0 (Sl aaB_0_1 aB_0.2 caB_0_1) aB_0.2, Ch.ro 0 (Sl aaAt_1 aAt_1 caAt_1) aAt_1]) from (H.sel' [1, 2, 0, 1, 2, 3] rfl rfl))) wn ?_
  rintro _ σ8 ⟨_, ⟨rfl, rfl⟩, H, -⟩
  replace H : Hp S0 σ0 σ8 [Ch.bx n0 b1 0 [(Sl aaB_0_0 aB_0.1 caB_0_0), (Sl aaB_0_1 aB_0.2 caB_0_1)] [] [], Ch.ro 0 (Sl aaB_0_0 aB_0.1 caB_0_0) aB_0.1, Ch.ro 0 (Sl aaB_0_1 aB_0.2 caB_0_1) aB_0.2, Ch.ro 0 (Sl aaAt_1 aAt_1 caAt_1) aAt_1] := H
  refine st (v := (I r5)) (rv_assign rfl) ?_
  refine w_end ?_
  refine q_then ?_
  refine c_seq ?_
  refine c_seq ?_
  refine rg ?_
  refine st (v := (I r5)) (rv_move rfl) ?_
  refine st (v := (B (decide (r5 < 0)))) (rv_lss (a := r5) (b := 0) rfl rfl) ?_
  refine w_end ?_
  refine q_then ?_
  refine cd_cond (decide (r5 < 0)) rfl (fun hb9 => ?_) (fun hb9 => ?_)
  ·replace h := bif_t hb9 h
   refine c_seq ?_
   refine rg ?_
   refine st (v := (B true)) (rv_assign rfl) ?_
   refine w_end ?_
   refine q_then ?_
   refine c_ret ?_
   refine q_then_r ?_
   obtain rfl := Option.some.inj h
   exact fin_ret (v := (B true)) (results_ok Try.results12 (res_tmp (v := (B true)) rfl res_nil) rfl) ⟨rfl, rfl⟩ (H.sel' [] rfl rfl)
  ·replace h := bif_f hb9 h
   refine c_skip ?_
   refine q_then ?_
   refine c_seq ?_
   refine rg ?_
   have hc10 := H.cells 0 rfl
   refine st (v := (.agg #[(Sl aaB_0_0 aB_0.1 caB_0_0), (Sl aaB_0_1 aB_0.2 caB_0_1)])) (rv_load (cs := [(Sl aaB_0_0 aB_0.1 caB_0_0), (Sl aaB_0_1 aB_0.2 caB_0_1)]) Try.underlying49 rfl ti49 rfl rfl hc10) ?_
   obtain ⟨r11, hx12, h'⟩ := bind_some h
   clear h
   have h := h'; clear h'
   have hc13 := c_laws_toBook (aa_0_0 := aaB_0_0) (ca_0_0 := caB_0_0) (aa_0_1 := aaB_0_1) (ca_0_1 := caB_0_1) hx12
   refine st_call (cx_call hc13 (ent_f hc13.fn rfl) hn0 (show Hp S0 σ0 _ ([Ch.ro 0 (Sl aaB_0_0 aB_0.1 caB_0_0) aB_0.1, Ch.ro 0 (Sl aaB_0_1 aB_0.2 caB_0_1) aB_0.2] ++ [Ch.bx n0 b1 0 [(Sl aaB_0_0 aB_0.1 caB_0_0), (Sl aaB_0_1 aB_0.2 caB_0_1)] [] [], Ch.ro 0 (Sl aaB_0_0 aB_0.1 caB_0_0) aB_0.1, Ch.ro 0 (Sl aaB_0_1 aB_0.2 caB_0_1) aB_0.2, Ch.ro 0 (Sl aaAt_1 aAt_1 caAt_1) aAt_1]) from (H.sel' [1, 2, 0, 1, 2, 3] rfl rfl))) wn ?_
   rintro _ σ20 ⟨_, ⟨a14, c15, a17, c18, rfl, rfl, ht16, ht19⟩, H, -⟩
   replace H : Hp S0 σ0 σ20 [Ch.own n0 n0 (Sl a14 r11.1 c15) r11.1, Ch.own n0 n0 (Sl a17 r11.2 c18) r11.2, Ch.bx n0 b1 0 [(Sl aaB_0_0 aB_0.1 caB_0_0), (Sl aaB_0_1 aB_0.2 caB_0_1)] [] [], Ch.ro 0 (Sl aaB_0_0 aB_0.1 caB_0_0) aB_0.1, Ch.ro 0 (Sl aaB_0_1 aB_0.2 caB_0_1) aB_0.2, Ch.ro 0 (Sl aaAt_1 aAt_1 caAt_1) aAt_1] := H
   refine st (v := (Sl aaAt_1 aAt_1 caAt_1)) (rv_move rfl) ?_
   obtain ⟨r21, hx22, h'⟩ := bind_some h
   clear h
   have h := h'; clear h'
   have hc23 := c_laws_toIntS (aa_0 := aaAt_1) (ca_0 := caAt_1) hx22
   refine st_call (cx_call hc23 (ent_f hc23.fn rfl) hn0 (show Hp S0 σ0 _ ([Ch.ro 0 (Sl aaAt_1 aAt_1 caAt_1) aAt_1] ++ [Ch.own n0 n0 (Sl a14 r11.1 c15) r11.1, Ch.own n0 n0 (Sl a17 r11.2 c18) r11.2, Ch.bx n0 b1 0 [(Sl aaB_0_0 aB_0.1 caB_0_0), (Sl aaB_0_1 aB_0.2 caB_0_1)] [] [], Ch.ro 0 (Sl aaB_0_0 aB_0.1 caB_0_0) aB_0.1, Ch.ro 0 (Sl aaB_0_1 aB_0.2 caB_0_1) aB_0.2, Ch.ro 0 (Sl aaAt_1 aAt_1 caAt_1) aAt_1]) from (H.sel' [5, 0, 1, 2, 3, 4, 5] rfl rfl))) wn ?_
   rintro _ σ27 ⟨_, ⟨a24, c25, rfl, rfl, ht26⟩, H, -⟩
   replace H : Hp S0 σ0 σ27 [Ch.own n0 n0 (Sl a24 r21 c25) r21, Ch.own n0 n0 (Sl a14 r11.1 c15) r11.1, Ch.own n0 n0 (Sl a17 r11.2 c18) r11.2, Ch.bx n0 b1 0 [(Sl aaB_0_0 aB_0.1 caB_0_0), (Sl aaB_0_1 aB_0.2 caB_0_1)] [] [], Ch.ro 0 (Sl aaB_0_0 aB_0.1 caB_0_0) aB_0.1, Ch.ro 0 (Sl aaB_0_1 aB_0.2 caB_0_1) aB_0.2, Ch.ro 0 (Sl aaAt_1 aAt_1 caAt_1) aAt_1] := H
   obtain ⟨σ28, hw29, H, -⟩ := H.pub 1 rfl (Nat.le_refl _)
   rw [← hw29]; clear hw29
   obtain ⟨σ30, hw31, H, -⟩ := H.pub 2 rfl (Nat.le_refl _)
   rw [← hw31]; clear hw31
   obtain ⟨σ32, hw33, H, -⟩ := H.pub 2 rfl (Nat.le_refl _)
   rw [← hw33]; clear hw33
   replace H := H.roLow 2 0 rfl (Nat.zero_le _)
   replace H := H.roLow 2 0 rfl (Nat.zero_le _)
   replace H := H.roLow 2 0 rfl (Nat.zero_le _)
   obtain ⟨r34, hx35, h'⟩ := bind_some h
   clear h
   have h := h'; clear h'
   have hc36 := c_spec_EncodeVector (ab_0_0 := a14) (cb_0_0 := c15) (ab_0_1 := a17) (cb_0_1 := c18) (aat_1 := a24) (cat_1 := c25) hx35
   refine st_call (cx_call hc36 (ent_f hc36.fn rfl) hn0 (show Hp S0 σ0 _ ([Ch.ro 0 (Sl a14 r11.1 c15) r11.1, Ch.ro 0 (Sl a17 r11.2 c18) r11.2, Ch.ro 0 (Sl a24 r21 c25) r21] ++ [Ch.ro 0 (Sl a24 r21 c25) r21, Ch.ro 0 (Sl a17 r11.2 c18) r11.2, Ch.ro 0 (Sl a14 r11.1 c15) r11.1, Ch.ro n0 (Sl a24 r21 c25) r21, Ch.ro n0 (Sl a17 r11.2 c18) r11.2, Ch.ro n0 (Sl a14 r11.1 c15) r11.1, Ch.bx n0 b1 0 [(Sl aaB_0_0 aB_0.1 caB_0_0), (Sl aaB_0_1 aB_0.2 caB_0_1)] [] [], Ch.ro 0 (Sl aaB_0_0 aB_0.1 caB_0_0) aB_0.1, Ch.ro 0 (Sl aaB_0_1 aB_0.2 caB_0_1) aB_0.2, Ch.ro 0 (Sl aaAt_1 aAt_1 caAt_1) aAt_1]) from (H.sel' [2, 1, 0, 0, 1, 2, 3, 4, 5, 6, 7, 8, 9] rfl rfl))) wn ?_
   rintro _ σ37 ⟨_, ⟨rfl, rfl⟩, H, -⟩
   replace H : Hp S0 σ0 σ37 [Ch.ro 0 (Sl a24 r21 c25) r21, Ch.ro 0 (Sl a17 r11.2 c18) r11.2, Ch.ro 0 (Sl a14 r11.1 c15) r11.1, Ch.ro n0 (Sl a24 r21 c25) r21, Ch.ro n0 (Sl a17 r11.2 c18) r11.2, Ch.ro n0 (Sl a14 r11.1 c15) r11.1, Ch.bx n0 b1 0 [(Sl aaB_0_0 aB_0.1 caB_0_0), (Sl aaB_0_1 aB_0.2 caB_0_1)] [] [], Ch.ro 0 (Sl aaB_0_0 aB_0.1 caB_0_0) aB_0.1, Ch.ro 0 (Sl aaB_0_1 aB_0.2 caB_0_1) aB_0.2, Ch.ro 0 (Sl aaAt_1 aAt_1 caAt_1) aAt_1] := H
   replace H : Hp S0 σ0 σ37 [Ch.bx n0 b1 0 [(Sl aaB_0_0 aB_0.1 caB_0_0), (Sl aaB_0_1 aB_0.2 caB_0_1)] [] [], Ch.ro 0 (Sl aaB_0_0 aB_0.1 caB_0_0) aB_0.1, Ch.ro 0 (Sl aaB_0_1 aB_0.2 caB_0_1) aB_0.2, Ch.ro 0 (Sl aaAt_1 aAt_1 caAt_1) aAt_1] := H.sel' [6, 7, 8, 9] rfl rfl
   refine st (v := (I r34)) (rv_assign rfl) ?_
   refine w_end ?_
   refine q_then ?_
   refine c_seq ?_
   refine rg ?_
   have hc38 := H.cells 0 rfl
   refine st (v := (.agg #[(Sl aaB_0_0 aB_0.1 caB_0_0), (Sl aaB_0_1 aB_0.2 caB_0_1)])) (rv_load (cs := [(Sl aaB_0_0 aB_0.1 caB_0_0), (Sl aaB_0_1 aB_0.2 caB_0_1)]) Try.underlying49 rfl ti49 rfl rfl hc38) ?_
   obtain ⟨r39, hx40, h'⟩ := bind_some h
   clear h
   have h := h'; clear h'
   have hc41 := c_laws_toBook (aa_0_0 := aaB_0_0) (ca_0_0 := caB_0_0) (aa_0_1 := aaB_0_1) (ca_0_1 := caB_0_1) hx40
   refine st_call (cx_call hc41 (ent_f hc41.fn rfl) hn0 (show Hp S0 σ0 _ ([Ch.ro 0 (Sl aaB_0_0 aB_0.1 caB_0_0) aB_0.1, Ch.ro 0 (Sl aaB_0_1 aB_0.2 caB_0_1) aB_0.2] ++ [Ch.bx n0 b1 0 [(Sl aaB_0_0 aB_0.1 caB_0_0), (Sl aaB_0_1 aB_0.2 caB_0_1)] [] [], Ch.ro 0 (Sl aaB_0_0 aB_0.1 caB_0_0) aB_0.1, Ch.ro 0 (Sl aaB_0_1 aB_0.2 caB_0_1) aB_0.2, Ch.ro 0 (Sl aaAt_1 aAt_1 caAt_1) aAt_1]) from (H.sel' [1, 2, 0, 1, 2, 3] rfl rfl))) wn ?_
   rintro _ σ48 ⟨_, ⟨a42, c43, a45, c46, rfl, rfl, ht44, ht47⟩, H, -⟩
   replace H : Hp S0 σ0 σ48 [Ch.own n0 n0 (Sl a42 r39.1 c43) r39.1, Ch.own n0 n0 (Sl a45 r39.2 c46) r39.2, Ch.bx n0 b1 0 [(Sl aaB_0_0 aB_0.1 caB_0_0), (Sl aaB_0_1 aB_0.2 caB_0_1)] [] [], Ch.ro 0 (Sl aaB_0_0 aB_0.1 caB_0_0) aB_0.1, Ch.ro 0 (Sl aaB_0_1 aB_0.2 caB_0_1) aB_0.2, Ch.ro 0 (Sl aaAt_1 aAt_1 caAt_1) aAt_1] := H
   refine st_ex (ex_alloc (cs := [(.slice none 0 0), (.slice none 0 0)]) H hn0 ti39 rfl) wn ?_
   rintro _ σ50 ⟨b49, rfl, H, -⟩
   refine st_exS (ex_store_box (k := 0) (cs := [(.slice none 0 0), (.slice none 0 0)]) (vs := [(Sl a42 r39.1 c43), (Sl a45 r39.2 c46)]) (cs' := [(Sl a42 r39.1 c43), (Sl a45 r39.2 c46)]) H (i := 0) rfl ti39 rfl rfl rfl rfl rfl (Nat.le_of_ble_eq_true rfl) (by simp [plain]) rfl) wn ?_
   rintro σ51 ⟨H, -⟩
   refine w_end ?_
   refine q_then ?_
   refine c_seq ?_
   refine rg ?_
   refine st (v := (Sl aaAt_1 aAt_1 caAt_1)) (rv_move rfl) ?_
   obtain ⟨r52, hx53, h'⟩ := bind_some h
   clear h
   have h := h'; clear h'
   have hc54 := c_laws_toIntS (aa_0 := aaAt_1) (ca_0 := caAt_1) hx53
   refine st_call (cx_call hc54 (ent_f hc54.fn rfl) hn0 (show Hp S0 σ0 _ ([Ch.ro 0 (Sl aaAt_1 aAt_1 caAt_1) aAt_1] ++ [Ch.bx n0 b49 0 [(Sl a42 r39.1 c43), (Sl a45 r39.2 c46)] [] [], Ch.own n0 n0 (Sl a42 r39.1 c43) r39.1, Ch.own n0 n0 (Sl a45 r39.2 c46) r39.2, Ch.bx n0 b1 0 [(Sl aaB_0_0 aB_0.1 caB_0_0), (Sl aaB_0_1 aB_0.2 caB_0_1)] [] [], Ch.ro 0 (Sl aaB_0_0 aB_0.1 caB_0_0) aB_0.1, Ch.ro 0 (Sl aaB_0_1 aB_0.2 caB_0_1) aB_0.2, Ch.ro 0 (Sl aaAt_1 aAt_1 caAt_1) aAt_1]) from (H.sel' [6, 0, 1, 2, 3, 4, 5, 6] rfl rfl))) wn ?_
   rintro _ σ58 ⟨_, ⟨a55, c56, rfl, rfl, ht57⟩, H, -⟩
   replace H : Hp S0 σ0 σ58 [Ch.own n0 n0 (Sl a55 r52 c56) r52, Ch.bx n0 b49 0 [(Sl a42 r39.1 c43), (Sl a45 r39.2 c46)] [] [], Ch.own n0 n0 (Sl a42 r39.1 c43) r39.1, Ch.own n0 n0 (Sl a45 r39.2 c46) r39.2, Ch.bx n0 b1 0 [(Sl aaB_0_0 aB_0.1 caB_0_0), (Sl aaB_0_1 aB_0.2 caB_0_1)] [] [], Ch.ro 0 (Sl aaB_0_0 aB_0.1 caB_0_0) aB_0.1, Ch.ro 0 (Sl aaB_0_1 aB_0.2 caB_0_1) aB_0.2, Ch.ro 0 (Sl aaAt_1 aAt_1 caAt_1) aAt_1] := H
   refine st (v := (Sl a55 r52 c56)) (rv_assign rfl) ?_
   refine w_end ?_
   refine q_then ?_
   refine c_seq ?_
   refine rg ?_
   have hc59 := H.cells 1 rfl
   refine st (v := (.agg #[(Sl a42 r39.1 c43), (Sl a45 r39.2 c46)])) (rv_load (cs := [(Sl a42 r39.1 c43), (Sl a45 r39.2 c46)]) Try.underlying39 rfl ti39 rfl rfl hc59) ?_
   refine st (v := (Sl a55 r52 c56)) (rv_move rfl) ?_
   obtain ⟨r60, hx61, h'⟩ := bind_some h
   clear h
   have h := h'; clear h'
   have hc62 := c_impl_EncodeVector (ab_0_0 := a42) (cb_0_0 := c43) (ab_0_1 := a45) (cb_0_1 := c46) (aat_1 := a55) (cat_1 := c56) hx61
   have hle := Nat.le_trans hn0 H.size
   refine st_call (cx_lend (Loan.lend (Loan.lend (Loan.lend Loan.nil))) hc62 (ent_f hc62.fn rfl) (show Hp S0 σ0 _ ([Ch.own n0 n0 (Sl a42 r39.1 c43) r39.1, Ch.own n0 n0 (Sl a45 r39.2 c46) r39.2, Ch.own n0 n0 (Sl a55 r52 c56) r52] ++ ([] ++ [Ch.bx n0 b49 0 [(Sl a42 r39.1 c43), (Sl a45 r39.2 c46)] [] [], Ch.bx n0 b1 0 [(Sl aaB_0_0 aB_0.1 caB_0_0), (Sl aaB_0_1 aB_0.2 caB_0_1)] [] [], Ch.ro 0 (Sl aaB_0_0 aB_0.1 caB_0_0) aB_0.1, Ch.ro 0 (Sl aaB_0_1 aB_0.2 caB_0_1) aB_0.2, Ch.ro 0 (Sl aaAt_1 aAt_1 caAt_1) aAt_1])) from (H.sel' [2, 3, 0, 1, 4, 5, 6, 7] rfl rfl)) (by rintro _ _ _ ⟨rfl, rfl⟩; exact trivial)) wn ?_
   rintro _ σ63 ⟨_, ⟨rfl, rfl⟩, H, -, -⟩
   replace H : Hp S0 σ0 σ63 [Ch.own n0 n0 (Sl a42 r39.1 c43) r39.1, Ch.own n0 n0 (Sl a45 r39.2 c46) r39.2, Ch.own n0 n0 (Sl a55 r52 c56) r52, Ch.bx n0 b49 0 [(Sl a42 r39.1 c43), (Sl a45 r39.2 c46)] [] [], Ch.bx n0 b1 0 [(Sl aaB_0_0 aB_0.1 caB_0_0), (Sl aaB_0_1 aB_0.2 caB_0_1)] [] [], Ch.ro 0 (Sl aaB_0_0 aB_0.1 caB_0_0) aB_0.1, Ch.ro 0 (Sl aaB_0_1 aB_0.2 caB_0_1) aB_0.2, Ch.ro 0 (Sl aaAt_1 aAt_1 caAt_1) aAt_1] := H
   clear hle
   replace H : Hp S0 σ0 σ63 [Ch.own n0 n0 (Sl a42 r39.1 c43) r39.1, Ch.own n0 n0 (Sl a45 r39.2 c46) r39.2, Ch.own n0 n0 (Sl a55 r52 c56) r52, Ch.bx n0 b49 0 [(Sl a42 r39.1 c43), (Sl a45 r39.2 c46)] [] [], Ch.bx n0 b1 0 [(Sl aaB_0_0 aB_0.1 caB_0_0), (Sl aaB_0_1 aB_0.2 caB_0_1)] [] [], Ch.ro 0 (Sl aaB_0_0 aB_0.1 caB_0_0) aB_0.1, Ch.ro 0 (Sl aaB_0_1 aB_0.2 caB_0_1) aB_0.2, Ch.ro 0 (Sl aaAt_1 aAt_1 caAt_1) aAt_1] := H
   refine st (v := (I r60)) (rv_assign rfl) ?_
   refine w_end ?_
   refine q_then ?_
   refine c_seq ?_
   refine c_seq ?_
   refine rg ?_
   refine st (v := (I r60)) (rv_move rfl) ?_
   refine st (v := (I r34)) (rv_move rfl) ?_
   refine st (v := (B (r60 != r34))) (rv_neq (a := r60) (b := r34) rfl rfl) ?_
   refine w_end ?_
   refine q_then ?_
   refine cd_cond (r60 != r34) rfl (fun hb64 => ?_) (fun hb64 => ?_)
   ·replace h := bif_t hb64 h
    refine c_seq ?_
    refine rg ?_
    refine st (v := (B false)) (rv_assign rfl) ?_
    refine w_end ?_
    refine q_then ?_
    refine c_ret ?_
    refine q_then_r ?_
    obtain rfl := Option.some.inj h
    exact fin_ret (v := (B false)) (results_ok Try.results12 (res_tmp (v := (B false)) rfl res_nil) rfl) ⟨rfl, rfl⟩ (H.sel' [] rfl rfl)
   ·replace h := bif_f hb64 h
    refine c_skip ?_
    refine q_then ?_
    refine c_seq ?_
    refine c_seq ?_
    have hc65 := H.cells 3 rfl
    have hc66 := H.cells 4 rfl
    obtain ⟨r67, hx68, h'⟩ := bind_some h
    clear h
    have h := h'; clear h'
    have hc69 := c_laws_toBook (aa_0_0 := aaB_0_0) (ca_0_0 := caB_0_0) (aa_0_1 := aaB_0_1) (ca_0_1 := caB_0_1) hx68
    have Hs := H
    refine rg2 (σ := σ63) (Nm := (Option Addr) × (Nat) × (Option Addr) × (Nat)) 3 [2] [[false], [true]] [[(0, 0), (1, 1)], [(0, 0)], [(0, 1)]] 1 [fun ((a70, c71, a73, c74) : (Option Addr) × (Nat) × (Option Addr) × (Nat)) => fun σm => Hp S0 σ0 σm [Ch.own n0 n0 (Sl a42 r39.1 c43) r39.1, Ch.own n0 n0 (Sl a45 r39.2 c46) r39.2, Ch.own n0 n0 (Sl a55 r52 c56) r52, Ch.bx n0 b49 0 [(Sl a42 r39.1 c43), (Sl a45 r39.2 c46)] [] [], Ch.bx n0 b1 0 [(Sl aaB_0_0 aB_0.1 caB_0_0), (Sl aaB_0_1 aB_0.2 caB_0_1)] [] [], Ch.ro 0 (Sl aaB_0_0 aB_0.1 caB_0_0) aB_0.1, Ch.ro 0 (Sl aaB_0_1 aB_0.2 caB_0_1) aB_0.2, Ch.ro 0 (Sl aaAt_1 aAt_1 caAt_1) aAt_1] ∧ Md (cov []) σ63 σm, fun ((a70, c71, a73, c74) : (Option Addr) × (Nat) × (Option Addr) × (Nat)) => fun σm => Hp S0 σ0 σm [Ch.own n0 n0 (Sl a70 r67.1 c71) r67.1, Ch.own n0 n0 (Sl a73 r67.2 c74) r67.2, Ch.own n0 n0 (Sl a42 r39.1 c43) r39.1, Ch.own n0 n0 (Sl a45 r39.2 c46) r39.2, Ch.own n0 n0 (Sl a55 r52 c56) r52, Ch.bx n0 b49 0 [(Sl a42 r39.1 c43), (Sl a45 r39.2 c46)] [] [], Ch.bx n0 b1 0 [(Sl aaB_0_0 aB_0.1 caB_0_0), (Sl aaB_0_1 aB_0.2 caB_0_1)] [] [], Ch.ro 0 (Sl aaB_0_0 aB_0.1 caB_0_0) aB_0.1, Ch.ro 0 (Sl aaB_0_1 aB_0.2 caB_0_1) aB_0.2, Ch.ro 0 (Sl aaAt_1 aAt_1 caAt_1) aAt_1] ∧ Md (cov []) σ63 σm ∧ c71 = r67.1.length ∧ c74 = r67.2.length] [fun ((a70, c71, a73, c74) : (Option Addr) × (Nat) × (Option Addr) × (Nat)) => (.agg #[(Sl a42 r39.1 c43), (Sl a45 r39.2 c46)]), fun ((a70, c71, a73, c74) : (Option Addr) × (Nat) × (Option Addr) × (Nat)) => (.agg #[(Sl aaB_0_0 aB_0.1 caB_0_0), (Sl aaB_0_1 aB_0.2 caB_0_1)]), fun ((a70, c71, a73, c74) : (Option Addr) × (Nat) × (Option Addr) × (Nat)) => (.agg #[(Sl a70 r67.1 c71), (Sl a73 r67.2 c74)])] (none, 0, none, 0) (by kernel_rfl) (by kernel_rfl) ?_ ?_ ?_
    ·intro σm m0
     exact ⟨H.grow (m0.mono fun _ h => h.elim), m0⟩
    ·refine all_cons (by
       refine ⟨?_, ?_⟩
       ·rintro ⟨a70, c71, a73, c74⟩ ρ σm hJ hoff hdep
        have e7 := look_off (N := 43) (hoff 7 rfl) rfl
        obtain ⟨H, m⟩ := id hJ
        have hc65 := H.cells 3 rfl
        exact dp_v (v := (.agg #[(Sl a42 r39.1 c43), (Sl a45 r39.2 c46)])) wn (rv_load (cs := [(Sl a42 r39.1 c43), (Sl a45 r39.2 c46)]) Try.underlying39 rfl ti39 e7 rfl hc65) rfl hJ
       refine ⟨?_, ?_⟩
       ·rintro ⟨a70, c71, a73, c74⟩ ρ σm hJ hoff hdep
        have e7 := look_off (N := 43) (hoff 7 rfl) rfl
        obtain ⟨H, m, ht72, ht75⟩ := id hJ
        have hc65 := H.cells 5 rfl
        exact dp_v (v := (.agg #[(Sl a42 r39.1 c43), (Sl a45 r39.2 c46)])) wn (rv_load (cs := [(Sl a42 r39.1 c43), (Sl a45 r39.2 c46)]) Try.underlying39 rfl ti39 e7 rfl hc65) rfl hJ
       trivial) ?_
     refine all_cons (by
       refine ⟨?_, ?_⟩
       ·rintro ⟨a70, c71, a73, c74⟩ ρ σm hJ hoff hdep
        have e2 := look_off (N := 43) (hoff 2 rfl) rfl
        obtain ⟨H, m⟩ := id hJ
        have hc66 := H.cells 4 rfl
        exact dp_v (v := (.agg #[(Sl aaB_0_0 aB_0.1 caB_0_0), (Sl aaB_0_1 aB_0.2 caB_0_1)])) wn (rv_load (cs := [(Sl aaB_0_0 aB_0.1 caB_0_0), (Sl aaB_0_1 aB_0.2 caB_0_1)]) Try.underlying49 rfl ti49 e2 rfl hc66) rfl hJ
       trivial) ?_
     refine all_cons (by
       refine ⟨?_, ?_⟩
       ·rintro ⟨a70, c71, a73, c74⟩ ρ σm hJ hoff hdep
        have e34 : look 43 ρ 34 = (.agg #[(Sl aaB_0_0 aB_0.1 caB_0_0), (Sl aaB_0_1 aB_0.2 caB_0_1)]) := hdep 1 rfl rfl 34 rfl
        obtain ⟨H, m⟩ := id hJ
        refine dp_cx wn (cx_call hc69 (ent_f hc69.fn (by show [look 43 ρ 34] = _; rw [e34])) hn0 (show Hp S0 σ0 _ ([Ch.ro 0 (Sl aaB_0_0 aB_0.1 caB_0_0) aB_0.1, Ch.ro 0 (Sl aaB_0_1 aB_0.2 caB_0_1) aB_0.2] ++ [Ch.own n0 n0 (Sl a42 r39.1 c43) r39.1, Ch.own n0 n0 (Sl a45 r39.2 c46) r39.2, Ch.own n0 n0 (Sl a55 r52 c56) r52, Ch.bx n0 b49 0 [(Sl a42 r39.1 c43), (Sl a45 r39.2 c46)] [] [], Ch.bx n0 b1 0 [(Sl aaB_0_0 aB_0.1 caB_0_0), (Sl aaB_0_1 aB_0.2 caB_0_1)] [] [], Ch.ro 0 (Sl aaB_0_0 aB_0.1 caB_0_0) aB_0.1, Ch.ro 0 (Sl aaB_0_1 aB_0.2 caB_0_1) aB_0.2, Ch.ro 0 (Sl aaAt_1 aAt_1 caAt_1) aAt_1]) from (H.sel' [5, 6, 0, 1, 2, 3, 4, 5, 6, 7] rfl rfl))) ?_
        rintro _ σq ⟨_, ⟨a70x, c71x, a73x, c74x, rfl, rfl, ht72, ht75⟩, H2, m2⟩
        exact ⟨_, (a70x, c71x, a73x, c74x), rfl, rfl, ⟨H2.sel' [0, 1, 2, 3, 4, 5, 6, 7, 8, 9] rfl rfl, m.comp0 (m2.mono (fun i h => by simp [cov, Ch.ro] at h)), ht72, ht75⟩, stab [0, 1] (by kernel_rfl) ⟨rfl, rfl, trivial⟩⟩
       trivial) ?_
     exact all_nil
    ·rintro ⟨a70, c71, a73, c74⟩ ρ σ76 hJ hoff hrel
     have e1 := look_off (N := 43) (hoff 1 rfl) rfl
     have e8 := look_off (N := 43) (hoff 8 rfl) rfl
     have e33 := hrel 0 rfl 33 rfl
     have e35 := hrel 2 rfl 35 rfl
     obtain ⟨H, -, ht72, ht75⟩ := (show Hp S0 σ0 σ76 [Ch.own n0 n0 (Sl a70 r67.1 c71) r67.1, Ch.own n0 n0 (Sl a73 r67.2 c74) r67.2, Ch.own n0 n0 (Sl a42 r39.1 c43) r39.1, Ch.own n0 n0 (Sl a45 r39.2 c46) r39.2, Ch.own n0 n0 (Sl a55 r52 c56) r52, Ch.bx n0 b49 0 [(Sl a42 r39.1 c43), (Sl a45 r39.2 c46)] [] [], Ch.bx n0 b1 0 [(Sl aaB_0_0 aB_0.1 caB_0_0), (Sl aaB_0_1 aB_0.2 caB_0_1)] [] [], Ch.ro 0 (Sl aaB_0_0 aB_0.1 caB_0_0) aB_0.1, Ch.ro 0 (Sl aaB_0_1 aB_0.2 caB_0_1) aB_0.2, Ch.ro 0 (Sl aaAt_1 aAt_1 caAt_1) aAt_1] ∧ Md (cov []) σ63 σ76 ∧ c71 = r67.1.length ∧ c74 = r67.2.length from hJ)
     clear hJ Hs
     rw [fr_lookL (L := [(1, (Sl aaAt_1 aAt_1 caAt_1)), (8, (Sl a55 r52 c56)), (33, (.agg #[(Sl a42 r39.1 c43), (Sl a45 r39.2 c46)])), (35, (.agg #[(Sl a70 r67.1 c71), (Sl a73 r67.2 c74)]))]) ⟨e1, e8, e33, e35, trivial⟩]
     clear hoff hrel e1 e8 e33 e35
     obtain ⟨σ77, hw78, H, -⟩ := H.pub 2 rfl (Nat.le_refl _)
     rw [← hw78]; clear hw78
     obtain ⟨σ79, hw80, H, -⟩ := H.pub 3 rfl (Nat.le_refl _)
     rw [← hw80]; clear hw80
     obtain ⟨σ81, hw82, H, -⟩ := H.pub 2 rfl (Nat.le_refl _)
     rw [← hw82]; clear hw82
     obtain ⟨σ83, hw84, H, -⟩ := H.pub 3 rfl (Nat.le_refl _)
     rw [← hw84]; clear hw84
     replace H := H.roLow 3 0 rfl (Nat.zero_le _)
     replace H := H.roLow 3 0 rfl (Nat.zero_le _)
     replace H := H.roLow 3 0 rfl (Nat.zero_le _)
     replace H := H.roLow 3 0 rfl (Nat.zero_le _)
     obtain ⟨r85, hx86, h'⟩ := bind_some h
     clear h
     have h := h'; clear h'
     have hc87 := c_laws_eqBook (aa_0_0 := a42) (ca_0_0 := c43) (aa_0_1 := a45) (ca_0_1 := c46) (ab_1_0 := a70) (cb_1_0 := c71) (ab_1_1 := a73) (cb_1_1 := c74) hx86
     refine st_call (cx_call hc87 (ent_f hc87.fn rfl) hn0 (show Hp S0 σ0 _ ([Ch.ro 0 (Sl a42 r39.1 c43) r39.1, Ch.ro 0 (Sl a45 r39.2 c46) r39.2, Ch.ro 0 (Sl a70 r67.1 c71) r67.1, Ch.ro 0 (Sl a73 r67.2 c74) r67.2] ++ [Ch.ro 0 (Sl a73 r67.2 c74) r67.2, Ch.ro 0 (Sl a70 r67.1 c71) r67.1, Ch.ro 0 (Sl a45 r39.2 c46) r39.2, Ch.ro 0 (Sl a42 r39.1 c43) r39.1, Ch.ro n0 (Sl a73 r67.2 c74) r67.2, Ch.ro n0 (Sl a70 r67.1 c71) r67.1, Ch.ro n0 (Sl a45 r39.2 c46) r39.2, Ch.ro n0 (Sl a42 r39.1 c43) r39.1, Ch.own n0 n0 (Sl a55 r52 c56) r52, Ch.bx n0 b49 0 [(Sl a42 r39.1 c43), (Sl a45 r39.2 c46)] [] [], Ch.bx n0 b1 0 [(Sl aaB_0_0 aB_0.1 caB_0_0), (Sl aaB_0_1 aB_0.2 caB_0_1)] [] [], Ch.ro 0 (Sl aaB_0_0 aB_0.1 caB_0_0) aB_0.1, Ch.ro 0 (Sl aaB_0_1 aB_0.2 caB_0_1) aB_0.2, Ch.ro 0 (Sl aaAt_1 aAt_1 caAt_1) aAt_1]) from (H.sel' [3, 2, 1, 0, 0, 1, 2, 3, 4, 5, 6, 7, 8, 9, 10, 11, 12, 13] rfl rfl))) wn ?_
     rintro _ σ88 ⟨_, ⟨rfl, rfl⟩, H, -⟩
     replace H : Hp S0 σ0 σ88 [Ch.ro 0 (Sl a73 r67.2 c74) r67.2, Ch.ro 0 (Sl a70 r67.1 c71) r67.1, Ch.ro 0 (Sl a45 r39.2 c46) r39.2, Ch.ro 0 (Sl a42 r39.1 c43) r39.1, Ch.ro n0 (Sl a73 r67.2 c74) r67.2, Ch.ro n0 (Sl a70 r67.1 c71) r67.1, Ch.ro n0 (Sl a45 r39.2 c46) r39.2, Ch.ro n0 (Sl a42 r39.1 c43) r39.1, Ch.own n0 n0 (Sl a55 r52 c56) r52, Ch.bx n0 b49 0 [(Sl a42 r39.1 c43), (Sl a45 r39.2 c46)] [] [], Ch.bx n0 b1 0 [(Sl aaB_0_0 aB_0.1 caB_0_0), (Sl aaB_0_1 aB_0.2 caB_0_1)] [] [], Ch.ro 0 (Sl aaB_0_0 aB_0.1 caB_0_0) aB_0.1, Ch.ro 0 (Sl aaB_0_1 aB_0.2 caB_0_1) aB_0.2, Ch.ro 0 (Sl aaAt_1 aAt_1 caAt_1) aAt_1] := H
     replace H : Hp S0 σ0 σ88 [Ch.own n0 n0 (Sl a55 r52 c56) r52, Ch.ro 0 (Sl aaAt_1 aAt_1 caAt_1) aAt_1] := H.sel' [8, 13] rfl rfl
     refine st (v := (B (!r85))) (rv_not rfl) ?_
     refine w_end ?_
     refine q_then ?_
     refine cd_cond (!r85) rfl (fun hb89 => ?_) (fun hb89 => ?_)
     ·replace h := bif_t hb89 h
      refine c_seq ?_
      refine rg ?_
      refine st (v := (B false)) (rv_assign rfl) ?_
      refine w_end ?_
      refine q_then ?_
      refine c_ret ?_
      refine q_then_r ?_
      obtain rfl := Option.some.inj h
      exact fin_ret (v := (B false)) (results_ok Try.results12 (res_tmp (v := (B false)) rfl res_nil) rfl) ⟨rfl, rfl⟩ (H.sel' [] rfl rfl)
     ·replace h := bif_f hb89 h
      refine c_skip ?_
      refine q_then ?_
      refine c_seq ?_
      refine c_seq ?_
      refine rg ?_
      refine st (v := (Sl a55 r52 c56)) (rv_move rfl) ?_
      refine st (v := (Sl aaAt_1 aAt_1 caAt_1)) (rv_move rfl) ?_
      obtain ⟨r90, hx91, h'⟩ := bind_some h
      clear h
      have h := h'; clear h'
      have hc92 := c_laws_toIntS (aa_0 := aaAt_1) (ca_0 := caAt_1) hx91
      refine st_call (cx_call hc92 (ent_f hc92.fn rfl) hn0 (show Hp S0 σ0 _ ([Ch.ro 0 (Sl aaAt_1 aAt_1 caAt_1) aAt_1] ++ [Ch.own n0 n0 (Sl a55 r52 c56) r52, Ch.ro 0 (Sl aaAt_1 aAt_1 caAt_1) aAt_1]) from (H.sel' [1, 0, 1] rfl rfl))) wn ?_
      rintro _ σ96 ⟨_, ⟨a93, c94, rfl, rfl, ht95⟩, H, -⟩
      replace H : Hp S0 σ0 σ96 [Ch.own n0 n0 (Sl a93 r90 c94) r90, Ch.own n0 n0 (Sl a55 r52 c56) r52, Ch.ro 0 (Sl aaAt_1 aAt_1 caAt_1) aAt_1] := H
      obtain ⟨σ97, hw98, H, -⟩ := H.pub 1 rfl (Nat.le_refl _)
      rw [← hw98]; clear hw98
      obtain ⟨σ99, hw100, H, -⟩ := H.pub 1 rfl (Nat.le_refl _)
      rw [← hw100]; clear hw100
      replace H := H.roLow 1 0 rfl (Nat.zero_le _)
      replace H := H.roLow 1 0 rfl (Nat.zero_le _)
      obtain ⟨r101, hx102, h'⟩ := bind_some h
      clear h
      have h := h'; clear h'
      have hc103 := c_laws_eqIntS (aa_0 := a55) (ca_0 := c56) (ab_1 := a93) (cb_1 := c94) hx102
      refine st_call (cx_call hc103 (ent_f hc103.fn rfl) hn0 (show Hp S0 σ0 _ ([Ch.ro 0 (Sl a55 r52 c56) r52, Ch.ro 0 (Sl a93 r90 c94) r90] ++ [Ch.ro 0 (Sl a93 r90 c94) r90, Ch.ro 0 (Sl a55 r52 c56) r52, Ch.ro n0 (Sl a93 r90 c94) r90, Ch.ro n0 (Sl a55 r52 c56) r52, Ch.ro 0 (Sl aaAt_1 aAt_1 caAt_1) aAt_1]) from (H.sel' [1, 0, 0, 1, 2, 3, 4] rfl rfl))) wn ?_
      rintro _ σ104 ⟨_, ⟨rfl, rfl⟩, H, -⟩
      replace H : Hp S0 σ0 σ104 [Ch.ro 0 (Sl a93 r90 c94) r90, Ch.ro 0 (Sl a55 r52 c56) r52, Ch.ro n0 (Sl a93 r90 c94) r90, Ch.ro n0 (Sl a55 r52 c56) r52, Ch.ro 0 (Sl aaAt_1 aAt_1 caAt_1) aAt_1] := H
      refine st (v := (B (!r101))) (rv_not rfl) ?_
      refine w_end ?_
      refine q_then ?_
      refine cd_cond (!r101) rfl (fun hb105 => ?_) (fun hb105 => ?_)
      ·replace h := bif_t hb105 h
       refine c_seq ?_
       refine rg ?_
       refine st (v := (B false)) (rv_assign rfl) ?_
       refine w_end ?_
       refine q_then ?_
       refine c_ret ?_
       refine q_then_r ?_
       obtain rfl := Option.some.inj h
       exact fin_ret (v := (B false)) (results_ok Try.results12 (res_tmp (v := (B false)) rfl res_nil) rfl) ⟨rfl, rfl⟩ (H.sel' [] rfl rfl)
      ·replace h := bif_f hb105 h
       refine c_skip ?_
       refine q_then ?_
       refine c_seq ?_
       refine rg ?_
       refine st (v := (B true)) (rv_assign rfl) ?_
       refine w_end ?_
       refine q_then ?_
       refine c_ret ?_
       obtain rfl := Option.some.inj h
       exact fin_ret (v := (B true)) (results_ok Try.results12 (res_tmp (v := (B true)) rfl res_nil) rfl) ⟨rfl, rfl⟩ (H.sel' [] rfl rfl)

end Go.Vs
