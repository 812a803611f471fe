/- The functions compute what their models say. -/
import Derived.Test.YtbbddfckcpfoaabKExactBucketOfC3
set_option linter.unusedVariables false
set_option linter.unusedSimpArgs false
set_option maxRecDepth 20000
namespace Go.Vs
open Go Go.Proofs
attribute [local irreducible] Code.wp Code.wpIn wpList wpListIn wpQuiet Calls CallsIn

theorem c_laws_toIntSS {a_0 : List (List Int)} {aa_0 : Option Addr} {ca_0 : Nat} {r : (List (List Int))} (h : M.dIntSS a_0 = some r) :
    Cal2 Try.prog 25 [(Sl aa_0 a_0 ca_0)] [Ch.ro 0 (Sl aa_0 a_0 ca_0) a_0] (fun n0 v L => ∃ (az1 : Option Addr), ∃ (cz2 : Nat), ∃ (K : List Ch), v = (Sl az1 r cz2) ∧ L = [Ch.big K] ∧ Dp n0 (Sl az1 r cz2) r K) := by
 obtain ⟨hn, hx, rfl⟩ := dIntSS_some h
 clear h
 refine cal2 (n := 23) Try.func25 rfl rfl rfl rfl ?_
 intro S0 σ0 n0 hn0 H
 refine c_seq ?_
 refine rg ?_
 refine st (v := (.slice none 0 0)) (rv_assign rfl) ?_
 refine w_end ?_
 refine q_then ?_
 refine c_seq ?_
 refine rg ?_
 refine st (v := (Sl aa_0 r ca_0)) (rv_move rfl) ?_
 refine st (v := (I (r.length : Int))) (rv_len Try.underlying23 rfl) ?_
 refine st_ex (ex_make (el := n0) (z0 := (.slice none 0 0 : Value)) (zs := [(.slice none 0 0)]) H hn0 Try.underlying23 ti25 rfl rfl (⟨rfl, rfl⟩) (by decide) (gmake_nat _ _ hn) rfl rfl) (wanted_none _ rfl _) ?_
 rintro _ σ6 ⟨b3, c4, rfl, ht5, H, -⟩
 rw [show (Sl (some ⟨b3, 0, none⟩) (List.replicate r.length (.slice none 0 0 : Value)) c4) = (Sl (some ⟨b3, 0, none⟩) r c4) from sl_len (by simp)] at H ⊢
 refine st (v := (Sl (some ⟨b3, 0, none⟩) r c4)) (rv_assign rfl) ?_
 refine w_end ?_
 refine q_then ?_
 refine c_seq ?_
 refine c_seq ?_
 refine rg ?_
 refine st (v := (I 0)) (rv_assign rfl) ?_
 refine w_end ?_
 refine q_then ?_
 refine c_cut (fun e a w => e = .normal ∧ ∃ (ρ : Nat → Value) (σ : St) (ps : List ((List Int) × Value)), a = fr 23 (updL ρ [(3, (Sl (some ⟨b3, 0, none⟩) r c4))]) ∧ w = σ.w ∧ ps.map (·.1) = r ∧ Hp S0 σ0 σ [Ch.own n0 n0 (Sl (some ⟨b3, 0, none⟩) r c4) (ps.map dsh), Ch.big (ps.map (dow n0))]) ?_ ?_
 ·refine c_blk ?_
  refine wp_loop_ghost (fun k a w => ∃ (i : Nat) (ρ : Nat → Value) (σ : St) (ps : List ((List Int) × Value)), i + k = r.length ∧ ps.length = i ∧ ps.map (·.1) = r.take i ∧ a = fr 23 (updL ρ [(0, (Sl aa_0 r ca_0)), (3, (Sl (some ⟨b3, 0, none⟩) r c4)), (4, (I (i : Int)))]) ∧ w = σ.w ∧ Hp S0 σ0 σ [Ch.own n0 n0 (Sl (some ⟨b3, 0, none⟩) r c4) (ps.map dsh ++ List.replicate k (.slice none 0 0 : Value)), Ch.ro 0 (Sl aa_0 r ca_0) r, Ch.big (ps.map (dow n0))]) r.length ⟨0, _, σ6, [], by omega, rfl, rfl, fr_join ⟨rfl, rfl, rfl, trivial⟩, rfl, H.bigNil.sel' [1, 2, 0] rfl rfl⟩ ?_
  clear H
  rintro k _ _ ⟨i, ρ, σ9, ps, hik, hps, hpr, rfl, rfl, H⟩
  refine c_seq ?_
  refine c_seq ?_
  refine rg ?_
  refine st (v := (I (i : Int))) (rv_move rfl) ?_
  refine st (v := (Sl aa_0 r ca_0)) (rv_move rfl) ?_
  refine st (v := (I (r.length : Int))) (rv_len Try.underlying23 rfl) ?_
  refine st (v := (B (decide ((i : Int) < (r.length : Int))))) (rv_lss (a := (i : Int)) (b := (r.length : Int)) rfl rfl) ?_
  refine w_end ?_
  refine q_then ?_
  refine cd_cond (decide ((i : Int) < (r.length : Int))) rfl (fun hb => ?_) (fun hb => ?_)
  ·have hlt : i < r.length := by have := of_decide_eq_true hb; omega
   obtain ⟨m, rfl⟩ : ∃ m, k = m + 1 := ⟨k - 1, by omega⟩
   refine c_skip ?_
   refine q_then ?_
   refine c_seq ?_
   refine c_blk ?_
   refine rg ?_
   refine st (v := (Sl (some ⟨b3, 0, none⟩) r c4)) (rv_move rfl) ?_
   refine st (v := (I (i : Int))) (rv_move rfl) ?_
   refine st (v := (Sl aa_0 r ca_0)) (rv_move rfl) ?_
   refine st (v := (I (i : Int))) (rv_move rfl) ?_
   have hx14 : gidx r (i : Int) = some r[i] := gidx_at hlt
   have hx24 := hx _ (List.getElem_mem hlt)
   have hpt : (ps.map (·.1)) ++ [r[i]] = r.take (i + 1) := by rw [hpr, List.take_succ_eq_append_getElem hlt]
   generalize r[i] = x13 at hx14 hx24 hpt
   obtain ⟨b16, o17, hi15, -⟩ := (H.ro 1 rfl).ix hx14
   refine st (v := (pt b16 o17)) (rv_ix Try.underlying23 ti25 rfl rfl hi15) ?_
   obtain ⟨_, ⟨_, rfl, hR22⟩, hl18, hc19⟩ := ((H.ro 1 rfl).at hx14 hi15).cells
   obtain ⟨a20, c21, rfl⟩ := hR22.isSl
   replace H := H.add (d := Ch.ro 0 (Sl a20 x13 c21) x13) hR22 (fun _ h => h)
   clear hR22
   have hc20 := hc19 0 (by simp)
   refine st (v := (Sl a20 x13 c21)) (rv_load1 Try.underlying25 rfl rfl hc20) ?_
   have hc25 := c_laws_toIntS (aa_0 := a20) (ca_0 := c21) hx24
   refine st_call (cx_call hc25 (ent_f hc25.fn rfl) hn0 (H.sel' [0, 1, 2, 3] rfl rfl : Hp S0 σ0 _ ([_] ++ _))) (wanted_none _ rfl _) ?_
   rintro _ σ29 ⟨_, ⟨a26, c27, rfl, rfl, ht28⟩, H, -⟩
   replace H : Hp S0 σ0 σ29 [Ch.own n0 n0 (Sl a26 x13 c27) x13, Ch.own n0 n0 (Sl (some ⟨b3, 0, none⟩) r c4) (ps.map dsh ++ List.replicate (m + 1) (.slice none 0 0 : Value)), Ch.ro 0 (Sl aa_0 r ca_0) r, Ch.big (ps.map (dow n0))] := H
   have hx31 := gidx_step (ps.map dsh) (.slice none 0 0 : Value) m (i : Int) (by simp [hps])
   obtain ⟨b33, o34, hi32, -⟩ := (H.own 1 rfl).ix hx31
   refine st (v := (pt b33 o34)) (rv_ix Try.underlying23 ti25 rfl rfl hi32) ?_
   refine st_exS (ex_store_own (e' := (Sl a26 x13 c27 : Value)) (vs := [(Sl a26 x13 c27)]) (k := 0) H (i := 1) rfl ti25 hx31 hi32 rfl rfl rfl rfl rfl (Nat.le_of_ble_eq_true rfl) (by simp [plain]) (by rintro _ ⟨rfl, -⟩; exact ⟨rfl, rfl⟩)) (wanted_none _ rfl _) ?_
   rintro σ40 ⟨H, -⟩
   refine w_end ?_
   refine q_blk ?_
   refine q_then ?_
   refine rg ?_
   refine st (v := (I (i : Int))) (rv_move rfl) ?_
   refine st (v := (I (w64 ((i : Int) + 1)))) (rv_add (a := (i : Int)) (b := 1) rfl rfl) ?_
   refine st (v := (I (w64 ((i : Int) + 1)))) (rv_assign rfl) ?_
   refine w_end ?_
   have e1 : w64 ((i : Int) + 1) = ((i + 1 : Nat) : Int) := w64_id (by omega) (by omega)
   rw [e1]
   refine q_then ?_
   have hset := set_step (ps.map dsh) (.slice none 0 0 : Value) (Sl a26 x13 c27) m
   rw [List.length_map, hps] at hset
   refine ⟨m, by omega, i + 1, _, σ40, ps ++ [(x13, (Sl a26 x13 c27))], by omega, by simp [hps], by simpa using hpt, fr_join ⟨rfl, rfl, rfl, trivial⟩, rfl, ?_⟩
   replace H := Hp.bigSnoc (H.sel' [1, 3, 0, 2] rfl rfl)
   replace H := H.sel' [1, 2, 0] rfl rfl
   simp only [Int.toNat_natCast, hset] at H
   rw [List.map_append, List.map_append]
   exact H
  ·have hlt : ¬ i < r.length := by have := of_decide_eq_false hb; omega
   obtain rfl : k = 0 := by omega
   obtain rfl : i = r.length := by omega
   refine c_exit ?_
   refine q_then_x ?_
   refine q_then_x ?_
   refine q_blk_hit ?_
   rw [List.take_length] at hpr
   simp only [List.replicate_zero, List.append_nil] at H
   exact ⟨rfl, _, σ9, ps, fr_join ⟨rfl, trivial⟩, rfl, hpr, H.sel' [0, 2] rfl rfl⟩
 ·clear H
  rintro e a w ⟨rfl, ρ, σ41, ps, rfl, rfl, hps, H⟩
  refine q_then ?_
  refine c_seq ?_
  refine rg ?_
  refine st (v := (Sl (some ⟨b3, 0, none⟩) r c4)) (rv_move rfl) ?_
  refine st (v := (Sl (some ⟨b3, 0, none⟩) r c4)) (rv_assign rfl) ?_
  refine w_end ?_
  refine q_then ?_
  refine c_ret ?_
  exact fin_ret (v := (Sl (some ⟨b3, 0, none⟩) r c4)) (results_ok Try.results25 (res_tmp (v := (Sl (some ⟨b3, 0, none⟩) r c4)) rfl res_nil) rfl) ⟨(some ⟨b3, 0, none⟩), c4, _, rfl, rfl, ⟨ps, hps.symm, rfl⟩⟩ H.bigCons


theorem c_laws_eqIntSS {a_0 : List (List Int)} {b_1 : List (List Int)} {aa_0 : Option Addr} {ca_0 : Nat} {ab_1 : Option Addr} {cb_1 : Nat} {r : Bool} (h : M.laws_eqIntSS a_0 b_1 = some r) :
    Cal2 Try.prog 26 [(Sl aa_0 a_0 ca_0), (Sl ab_1 b_1 cb_1)] [Ch.ro 0 (Sl aa_0 a_0 ca_0) a_0, Ch.ro 0 (Sl ab_1 b_1 cb_1) b_1] (fun n0 v L => v = (B r) ∧ L = []) := by
 refine cal2 (n := 27) Try.func26 rfl rfl rfl rfl ?_
 intro S0 σ0 n0 hn0 H
 unfold M.laws_eqIntSS at h
 refine c_seq ?_
 refine rg ?_
 refine st (v := (B false)) (rv_assign rfl) ?_
 refine w_end ?_
 refine q_then ?_
 refine c_seq ?_
 refine c_seq ?_
 refine rg ?_
 refine st (v := (Sl aa_0 a_0 ca_0)) (rv_move rfl) ?_
 refine st (v := (I (a_0.length : Int))) (rv_len Try.underlying23 rfl) ?_
 refine st (v := (Sl ab_1 b_1 cb_1)) (rv_move rfl) ?_
 refine st (v := (I (b_1.length : Int))) (rv_len Try.underlying23 rfl) ?_
 refine st (v := (B ((a_0.length : Int) != (b_1.length : Int)))) (rv_neq (a := (a_0.length : Int)) (b := (b_1.length : Int)) rfl rfl) ?_
 refine w_end ?_
 refine q_then ?_
 refine cd_cond ((a_0.length : Int) != (b_1.length : Int)) rfl (fun hb1 => ?_) (fun hb1 => ?_)
 ·replace h := bif_t hb1 h
  refine c_seq ?_
  refine rg ?_
  refine st (v := (B false)) (rv_assign rfl) ?_
  refine w_end ?_
  refine q_then ?_
  refine c_ret ?_
  refine q_then_r ?_
  obtain rfl := Option.some.inj h
  exact fin_ret (v := (B false)) (results_ok Try.results26 (res_tmp (v := (B false)) rfl res_nil) rfl) ⟨rfl, rfl⟩ (H.sel' [] rfl rfl)
 ·replace h := bif_f hb1 h
  refine c_skip ?_
  refine q_then ?_
  refine c_seq ?_
  refine c_seq ?_
  refine rg ?_
  refine st (v := (I 0)) (rv_assign rfl) ?_
  refine w_end ?_
  refine q_then ?_
  obtain ⟨o2, hj, h'⟩ := bind_some h
  clear h
  refine c_cut (fun e a w => (∃ t, o2 = (.inl t) ∧ e = .normal ∧ ∃ (ρ : Nat → Value) (σ : St), a = fr 27 (updL ρ []) ∧ w = σ.w ∧ Hp S0 σ0 σ []) ∨ (∃ t, o2 = (.inr t) ∧ e = .ret ∧ ∃ (ρ : Nat → Value) (σ : St), a = fr 27 (updL ρ [(4, (B t))]) ∧ w = σ.w ∧ Hp S0 σ0 σ [])) ?_ ?_
  ·clear h'
   rename _ = some o2 => h
   refine c_blk ?_
   refine wp_loopM _ h (fun s3 a w => ∃ (ρ : Nat → Value) (σ : St), a = fr 27 (updL ρ [(0, (Sl aa_0 a_0 ca_0)), (1, (Sl ab_1 b_1 cb_1)), (5, (I s3))]) ∧ w = σ.w ∧ Hp S0 σ0 σ [Ch.ro 0 (Sl aa_0 a_0 ca_0) a_0, Ch.ro 0 (Sl ab_1 b_1 cb_1) b_1]) ⟨_, σ0, fr_join ⟨rfl, rfl, rfl, trivial⟩, rfl, H.sel' [0, 1] rfl rfl⟩ ?_
   clear h H
   rintro s3 a w o ⟨ρ, σ4, rfl, rfl, H⟩ h hres
   refine c_seq ?_
   refine c_seq ?_
   refine rg ?_
   refine st (v := (I s3)) (rv_move rfl) ?_
   refine st (v := (Sl aa_0 a_0 ca_0)) (rv_move rfl) ?_
   refine st (v := (I (a_0.length : Int))) (rv_len Try.underlying23 rfl) ?_
   refine st (v := (B (decide (s3 < (a_0.length : Int))))) (rv_lss (a := s3) (b := (a_0.length : Int)) rfl rfl) ?_
   refine w_end ?_
   refine q_then ?_
   refine cd_cond (decide (s3 < (a_0.length : Int))) rfl (fun hb5 => ?_) (fun hb5 => ?_)
   ·replace h := bif_t hb5 h
    refine c_skip ?_
    refine q_then ?_
    refine c_seq ?_
    refine c_blk ?_
    refine c_seq ?_
    refine rgP (σ := σ4) 8 (by kernel_rfl) (by kernel_rfl) (by kernel_rfl) ?_
    refine sq (v := (Sl aa_0 a_0 ca_0)) (rv_move rfl) ?_
    refine sq (v := (I s3)) (rv_move rfl) ?_
    obtain ⟨x6, hx7, h'⟩ := bind_some h
    clear h
    have h := h'; clear h'
    obtain ⟨b9, o10, hi8, -⟩ := (H.ro 0 rfl).ix hx7
    refine sq (v := (pt b9 o10)) (rv_ix Try.underlying23 ti25 rfl rfl hi8) ?_
    obtain ⟨v14, hc15, hR13⟩ := ((H.ro 0 rfl).at hx7 hi8).slice
    obtain ⟨a11, c12, rfl⟩ := hR13.isSl
    replace H := H.add (d := Ch.ro 0 (Sl a11 x6 c12) x6) hR13 (fun _ h => h)
    clear hR13
    refine sq (v := (Sl a11 x6 c12)) (rv_load1 Try.underlying25 rfl rfl hc15) ?_
    refine sq (v := (Sl ab_1 b_1 cb_1)) (rv_move rfl) ?_
    refine sq (v := (I s3)) (rv_move rfl) ?_
    obtain ⟨x16, hx17, h'⟩ := bind_some h
    clear h
    have h := h'; clear h'
    obtain ⟨b19, o20, hi18, -⟩ := (H.ro 2 rfl).ix hx17
    refine sq (v := (pt b19 o20)) (rv_ix Try.underlying23 ti25 rfl rfl hi18) ?_
    obtain ⟨v24, hc25, hR23⟩ := ((H.ro 2 rfl).at hx17 hi18).slice
    obtain ⟨a21, c22, rfl⟩ := hR23.isSl
    replace H := H.add (d := Ch.ro 0 (Sl a21 x16 c22) x16) hR23 (fun _ h => h)
    clear hR23
    refine sq (v := (Sl a21 x16 c22)) (rv_load1 Try.underlying25 rfl rfl hc25) ?_
    refine sq_end ?_
    intro σ26 hm27
    replace H := H.grow (hm27.mono fun _ h => h); clear hm27
    obtain ⟨r28, hx29, h'⟩ := bind_some h
    clear h
    have h := h'; clear h'
    have hc30 := c_laws_eqIntS (aa_0 := a11) (ca_0 := c12) (ab_1 := a21) (cb_1 := c22) hx29
    refine st_call (cx_call hc30 (ent_f hc30.fn rfl) hn0 (show Hp S0 σ0 _ ([Ch.ro 0 (Sl a11 x6 c12) x6, Ch.ro 0 (Sl a21 x16 c22) x16] ++ [Ch.ro 0 (Sl a21 x16 c22) x16, Ch.ro 0 (Sl a11 x6 c12) x6, Ch.ro 0 (Sl aa_0 a_0 ca_0) a_0, Ch.ro 0 (Sl ab_1 b_1 cb_1) b_1]) from (H.sel' [1, 0, 0, 1, 2, 3] rfl rfl))) wn ?_
    rintro _ σ31 ⟨_, ⟨rfl, rfl⟩, H, -⟩
    replace H : Hp S0 σ0 σ31 [Ch.ro 0 (Sl a21 x16 c22) x16, Ch.ro 0 (Sl a11 x6 c12) x6, Ch.ro 0 (Sl aa_0 a_0 ca_0) a_0, Ch.ro 0 (Sl ab_1 b_1 cb_1) b_1] := H
    refine st (v := (B (!r28))) (rv_not rfl) ?_
    refine w_end ?_
    refine q_then ?_
    refine cd_cond (!r28) rfl (fun hb32 => ?_) (fun hb32 => ?_)
    ·replace h := bif_t hb32 h
     refine c_seq ?_
     refine rg ?_
     refine st (v := (B false)) (rv_assign rfl) ?_
     refine w_end ?_
     refine q_then ?_
     refine c_ret ?_
     refine q_blk_r ?_
     refine q_then_r ?_
     refine q_then_r ?_
     refine q_blk_r ?_
     obtain rfl := Option.some.inj h
     obtain rfl := hres _ rfl
     exact .inr (⟨_, rfl, rfl, _, σ31, fr_join ⟨rfl, trivial⟩, rfl, H.sel' [] rfl rfl⟩)
    ·replace h := bif_f hb32 h
     refine c_skip ?_
     refine q_blk ?_
     refine q_then ?_
     refine rg ?_
     refine st (v := (I s3)) (rv_move rfl) ?_
     refine st (v := (I (w64 (s3 + 1)))) (rv_add (a := s3) (b := 1) rfl rfl) ?_
     refine st (v := (I (w64 (s3 + 1)))) (rv_assign rfl) ?_
     refine w_end ?_
     refine q_then ?_
     obtain rfl := Option.some.inj h
     exact ⟨_, rfl, _, σ31, fr_join ⟨rfl, rfl, rfl, trivial⟩, rfl, H.sel' [2, 3] rfl rfl⟩
   ·replace h := bif_f hb5 h
    refine c_exit ?_
    refine q_then_x ?_
    refine q_then_x ?_
    refine q_blk_hit ?_
    obtain rfl := Option.some.inj h
    obtain rfl := hres _ rfl
    exact .inl ⟨_, rfl, rfl, _, σ4, fr_join trivial, rfl, H.sel' [] rfl rfl⟩
  ·clear hj
   have h := h'
   clear h' H
   rintro e a w (⟨t33, rfl, rfl, ρ, σ34, rfl, rfl, H⟩ | ⟨t35, rfl, rfl, ρ, σ36, rfl, rfl, H⟩)
   ·replace h := selim_l h
    refine q_then ?_
    refine c_seq ?_
    refine rg ?_
    refine st (v := (B true)) (rv_assign rfl) ?_
    refine w_end ?_
    refine q_then ?_
    refine c_ret ?_
    obtain rfl := Option.some.inj h
    exact fin_ret (v := (B true)) (results_ok Try.results26 (res_tmp (v := (B true)) rfl res_nil) rfl) ⟨rfl, rfl⟩ (H.sel' [] rfl rfl)
   ·replace h := selim_r h
    refine q_then_r ?_
    obtain rfl := Option.some.inj h
    exact fin_ret (v := (B t35)) (results_ok Try.results26 (res_tmp (v := (B t35)) rfl res_nil) rfl) ⟨rfl, rfl⟩ (H.sel' [] rfl rfl)

theorem c_laws_markIntSS {a_0 : List (List Int)} {k_1 : Int} {aa_0 : Option Addr} {ca_0 : Nat} {lo : Nat} {K : List Ch} (hK : Dp lo (Sl aa_0 a_0 ca_0) a_0 K) {r : Int} (h : M.markIntSD a_0 k_1 = some r) :
    Cal2 Try.prog 27 [(Sl aa_0 a_0 ca_0), (I k_1)] [Ch.big K] (fun n0 v L => v = (I r) ∧ L = []) := by
 obtain ⟨hn, h⟩ := markIntSD_some h
 obtain ⟨ps, hps, rfl⟩ := hK.ex
 refine cal2 (n := 19) Try.func27 rfl rfl rfl rfl ?_
 intro S0 σ0 n0 hn0 H
 refine c_seq ?_
 refine rg ?_
 refine st (v := (I 0)) (rv_assign rfl) ?_
 refine w_end ?_
 refine q_then ?_
 refine c_seq ?_
 refine c_seq ?_
 refine rg ?_
 refine st (v := (I 0)) (rv_assign rfl) ?_
 refine w_end ?_
 refine q_then ?_
 refine c_cut (fun e a w => e = .normal ∧ ∃ (ρ : Nat → Value) (σ : St), a = fr 19 (updL ρ [(1, (I r))]) ∧ w = σ.w ∧ Hp S0 σ0 σ []) ?_ ?_
 ·refine c_blk ?_
  have hlen : ps.length = a_0.length := by rw [hps]; simp
  refine wp_loop_ghost (fun m a w => ∃ (i : Nat) (ρ : Nat → Value) (σ : St) (ys : List Value) (qs : List ((List Int) × Value)) (k : Int), i + m = a_0.length ∧ qs.length = m ∧ ys.drop i = qs.map dsh ∧ M.dmarkIntSS (qs.map (·.1)) k = some r ∧ a = fr 19 (updL ρ [(0, (Sl aa_0 a_0 ca_0)), (1, (I k)), (5, (I (i : Int)))]) ∧ w = σ.w ∧ Hp S0 σ0 σ [Ch.own lo lo (Sl aa_0 a_0 ca_0) ys, Ch.big (qs.map (dow lo))]) a_0.length ⟨0, _, σ0, _, ps, k_1, by omega, hlen, rfl, hps ▸ h, fr_join ⟨rfl, rfl, rfl, trivial⟩, rfl, H.unbig⟩ ?_
  clear H
  rintro m _ _ ⟨i, ρ, σ3, ys, qs, k, him, hqs, hys, hk, rfl, rfl, H⟩
  refine c_seq ?_
  refine c_seq ?_
  refine rg ?_
  refine st (v := (I (i : Int))) (rv_move rfl) ?_
  refine st (v := (Sl aa_0 a_0 ca_0)) (rv_move rfl) ?_
  refine st (v := (I (a_0.length : Int))) (rv_len Try.underlying23 rfl) ?_
  refine st (v := (B (decide ((i : Int) < (a_0.length : Int))))) (rv_lss (a := (i : Int)) (b := (a_0.length : Int)) rfl rfl) ?_
  refine w_end ?_
  refine q_then ?_
  refine cd_cond (decide ((i : Int) < (a_0.length : Int))) rfl (fun hb => ?_) (fun hb => ?_)
  ·have hlt : i < a_0.length := by have := of_decide_eq_true hb; omega
   obtain ⟨m, rfl⟩ : ∃ m', m = m' + 1 := ⟨m - 1, by omega⟩
   obtain ⟨p, qs, rfl⟩ : ∃ p qs', qs = p :: qs' := by cases qs with
    | nil => cases hqs
    | cons p qs => exact ⟨p, qs, rfl⟩
   obtain ⟨q, hq, hk'⟩ := bind_some (show (M.laws_markIntS p.1 k).bind (fun q => M.dmarkIntSS (qs.map (·.1)) q.1) = some r from hk)
   replace hys : ys.drop i = dsh p :: qs.map dsh := hys
   refine c_skip ?_
   refine q_then ?_
   refine c_seq ?_
   refine c_blk ?_
   refine rg ?_
   refine st (v := (Sl aa_0 a_0 ca_0)) (rv_move rfl) ?_
   refine st (v := (I (i : Int))) (rv_move rfl) ?_
   have hx7 := gidx_drop hys
   obtain ⟨b9, o10, hi8, -⟩ := (H.own 0 rfl).ix hx7
   refine st (v := (pt b9 o10)) (rv_ix Try.underlying23 ti25 rfl rfl hi8) ?_
   obtain ⟨_, ⟨rfl, hpl⟩, hl18, hc19⟩ := ((H.own 0 rfl).at hx7 hi8).cells
   replace H := Hp.unbig (H.sel' [1, 0] rfl rfl)
   obtain ⟨a20, c21, h22⟩ : IsSl p.2 p.1.length := (show Ow σ3 lo lo p.2 p.1 from H.head).isSl
   obtain ⟨px, hd⟩ := p
   dsimp only at h22 hq hys hc19
   subst h22
   have hc20 := hc19 0 (by simp)
   refine st (v := (Sl a20 px c21)) (rv_load1 Try.underlying25 rfl rfl hc20) ?_
   refine st (v := (I k)) (rv_move rfl) ?_
   replace H : Hp S0 σ0 σ3 [Ch.own lo lo (Sl a20 px c21) px, Ch.big (qs.map (dow lo)), Ch.own lo lo (Sl aa_0 a_0 ca_0) ys] := H
   replace H := H.ownSc 0 0 0 rfl (Nat.zero_le _)
   have hc25 := c_laws_markIntS (aa_0 := a20) (ca_0 := c21) hq
   refine st_call (cx_call hc25 (ent_f hc25.fn rfl) hn0 (H.sel' [0, 1, 2] rfl rfl : Hp S0 σ0 _ ([_] ++ _))) (wanted_none _ rfl _) ?_
   rintro _ σ29 ⟨_, ⟨rfl, rfl, -⟩, H, -⟩
   replace H : Hp S0 σ0 σ29 [Ch.own 0 0 (Sl a20 q.2 c21) q.2, Ch.big (qs.map (dow lo)), Ch.own lo lo (Sl aa_0 a_0 ca_0) ys] := H
   replace H := H.sel' [2, 1] rfl rfl
   refine st (v := (I q.1)) (rv_assign rfl) ?_
   refine w_end ?_
   refine q_blk ?_
   refine q_then ?_
   refine rg ?_
   refine st (v := (I (i : Int))) (rv_move rfl) ?_
   refine st (v := (I (w64 ((i : Int) + 1)))) (rv_add (a := (i : Int)) (b := 1) rfl rfl) ?_
   refine st (v := (I (w64 ((i : Int) + 1)))) (rv_assign rfl) ?_
   refine w_end ?_
   have e1 : w64 ((i : Int) + 1) = ((i + 1 : Nat) : Int) := w64_id (by omega) (by omega)
   rw [e1]
   refine q_then ?_
   exact ⟨m, by omega, i + 1, _, σ29, _, qs, _, by omega, by simpa using hqs, drop_next hys, hk', fr_join ⟨rfl, rfl, rfl, trivial⟩, rfl, H⟩
  ·have hlt : ¬ i < a_0.length := by have := of_decide_eq_false hb; omega
   obtain rfl : m = 0 := by omega
   obtain rfl : qs = [] := List.eq_nil_of_length_eq_zero hqs
   obtain rfl : k = r := Option.some.inj hk
   refine c_exit ?_
   refine q_then_x ?_
   refine q_then_x ?_
   refine q_blk_hit ?_
   exact ⟨rfl, _, σ3, fr_join ⟨rfl, trivial⟩, rfl, H.sel' [] rfl rfl⟩
 ·clear H
  rintro e a w ⟨rfl, ρ, σ41, rfl, rfl, H⟩
  refine q_then ?_
  refine c_seq ?_
  refine rg ?_
  refine st (v := (I r)) (rv_move rfl) ?_
  refine st (v := (I r)) (rv_assign rfl) ?_
  refine w_end ?_
  refine q_then ?_
  refine c_ret ?_
  exact fin_ret (v := (I r)) (results_ok Try.results27 (res_tmp (v := (I r)) rfl res_nil) rfl) ⟨rfl, rfl⟩ H


theorem c_laws_heldIntS {a_0 : List Int} {k_1 : Int} {aa_0 : Option Addr} {ca_0 : Nat} {r : Int} (h : M.laws_heldIntS a_0 k_1 = some r) :
    Cal2 Try.prog 28 [(Sl aa_0 a_0 ca_0), (I k_1)] [Ch.ro 0 (Sl aa_0 a_0 ca_0) a_0] (fun n0 v L => v = (I r) ∧ L = []) := by
 refine cal2 (n := 21) Try.func28 rfl rfl rfl rfl ?_
 intro S0 σ0 n0 hn0 H
 unfold M.laws_heldIntS at h
 refine c_seq ?_
 refine rg ?_
 refine st (v := (I 0)) (rv_assign rfl) ?_
 refine w_end ?_
 refine q_then ?_
 refine c_seq ?_
 refine c_seq ?_
 refine rg ?_
 refine st (v := (I 0)) (rv_assign rfl) ?_
 refine w_end ?_
 refine q_then ?_
 obtain ⟨o1, hj, h'⟩ := bind_some h
 clear h
 refine c_cut (fun e a w => (∃ t, o1 = (.inl t) ∧ e = .normal ∧ ∃ (ρ : Nat → Value) (σ : St), a = fr 21 (updL ρ [(1, (I t))]) ∧ w = σ.w ∧ Hp S0 σ0 σ []) ∨ (∃ t, o1 = (.inr t) ∧ e = .ret ∧ ∃ (ρ : Nat → Value) (σ : St), a = fr 21 (updL ρ [(4, (I t))]) ∧ w = σ.w ∧ Hp S0 σ0 σ [])) ?_ ?_
 ·clear h'
  rename _ = some o1 => h
  refine c_blk ?_
  refine wp_loopM _ h (fun s2 a w => ∃ (ρ : Nat → Value) (σ : St), a = fr 21 (updL ρ [(0, (Sl aa_0 a_0 ca_0)), (1, (I s2.1)), (5, (I s2.2))]) ∧ w = σ.w ∧ Hp S0 σ0 σ [Ch.ro 0 (Sl aa_0 a_0 ca_0) a_0]) ⟨_, σ0, fr_join ⟨rfl, rfl, rfl, trivial⟩, rfl, H.sel' [0] rfl rfl⟩ ?_
  clear h H
  rintro s2 a w o ⟨ρ, σ3, rfl, rfl, H⟩ h hres
  refine c_seq ?_
  refine c_seq ?_
  refine rg ?_
  refine st (v := (I s2.2)) (rv_move rfl) ?_
  refine st (v := (Sl aa_0 a_0 ca_0)) (rv_move rfl) ?_
  refine st (v := (I (a_0.length : Int))) (rv_len Try.underlying25 rfl) ?_
  refine st (v := (B (decide (s2.2 < (a_0.length : Int))))) (rv_lss (a := s2.2) (b := (a_0.length : Int)) rfl rfl) ?_
  refine w_end ?_
  refine q_then ?_
  refine cd_cond (decide (s2.2 < (a_0.length : Int))) rfl (fun hb4 => ?_) (fun hb4 => ?_)
  ·replace h := bif_t hb4 h
   refine c_skip ?_
   refine q_then ?_
   refine c_seq ?_
   refine c_blk ?_
   refine c_seq ?_
   refine c_seq ?_
   refine rg ?_
   refine st (v := (Sl aa_0 a_0 ca_0)) (rv_move rfl) ?_
   refine st (v := (I s2.2)) (rv_move rfl) ?_
   obtain ⟨x5, hx6, h'⟩ := bind_some h
   clear h
   have h := h'; clear h'
   obtain ⟨b8, o9, hi7, -⟩ := (H.ro 0 rfl).ix hx6
   refine st (v := (pt b8 o9)) (rv_ix Try.underlying25 ti3 rfl rfl hi7) ?_
   have hc10 := ((H.ro 0 rfl).at hx6 hi7).int
   refine st (v := (I x5)) (rv_load1 Try.underlying3 rfl rfl hc10) ?_
   refine st (v := (I s2.1)) (rv_move rfl) ?_
   refine st (v := (B (x5 != s2.1))) (rv_neq (a := x5) (b := s2.1) rfl rfl) ?_
   refine w_end ?_
   refine q_then ?_
   refine cd_cond (x5 != s2.1) rfl (fun hb11 => ?_) (fun hb11 => ?_)
   ·replace h := bif_t hb11 h
    refine c_seq ?_
    refine rg ?_
    refine st (v := (I (-1))) (rv_assign rfl) ?_
    refine w_end ?_
    refine q_then ?_
    refine c_ret ?_
    refine q_then_r ?_
    refine q_blk_r ?_
    refine q_then_r ?_
    refine q_then_r ?_
    refine q_blk_r ?_
    obtain rfl := Option.some.inj h
    obtain rfl := hres _ rfl
    exact .inr (⟨_, rfl, rfl, _, σ3, fr_join ⟨rfl, trivial⟩, rfl, H.sel' [] rfl rfl⟩)
   ·replace h := bif_f hb11 h
    refine c_skip ?_
    refine q_then ?_
    refine rg ?_
    refine st (v := (I s2.1)) (rv_move rfl) ?_
    refine st (v := (I (w64 (s2.1 + 1)))) (rv_add (a := s2.1) (b := 1) rfl rfl) ?_
    refine st (v := (I (w64 (s2.1 + 1)))) (rv_assign rfl) ?_
    refine w_end ?_
    refine q_blk ?_
    refine q_then ?_
    refine rg ?_
    refine st (v := (I s2.2)) (rv_move rfl) ?_
    refine st (v := (I (w64 (s2.2 + 1)))) (rv_add (a := s2.2) (b := 1) rfl rfl) ?_
    refine st (v := (I (w64 (s2.2 + 1)))) (rv_assign rfl) ?_
    refine w_end ?_
    refine q_then ?_
    obtain rfl := Option.some.inj h
    exact ⟨_, rfl, _, σ3, fr_join ⟨rfl, rfl, rfl, trivial⟩, rfl, H.sel' [0] rfl rfl⟩
  ·replace h := bif_f hb4 h
   refine c_exit ?_
   refine q_then_x ?_
   refine q_then_x ?_
   refine q_blk_hit ?_
   obtain rfl := Option.some.inj h
   obtain rfl := hres _ rfl
   exact .inl ⟨_, rfl, rfl, _, σ3, fr_join ⟨rfl, trivial⟩, rfl, H.sel' [] rfl rfl⟩
 ·clear hj
  have h := h'
  clear h' H
  rintro e a w (⟨t12, rfl, rfl, ρ, σ13, rfl, rfl, H⟩ | ⟨t14, rfl, rfl, ρ, σ15, rfl, rfl, H⟩)
  ·replace h := selim_l h
   refine q_then ?_
   refine c_seq ?_
   refine rg ?_
   refine st (v := (I t12)) (rv_move rfl) ?_
   refine st (v := (I t12)) (rv_assign rfl) ?_
   refine w_end ?_
   refine q_then ?_
   refine c_ret ?_
   obtain rfl := Option.some.inj h
   exact fin_ret (v := (I t12)) (results_ok Try.results28 (res_tmp (v := (I t12)) rfl res_nil) rfl) ⟨rfl, rfl⟩ (H.sel' [] rfl rfl)
  ·replace h := selim_r h
   refine q_then_r ?_
   obtain rfl := Option.some.inj h
   exact fin_ret (v := (I t14)) (results_ok Try.results28 (res_tmp (v := (I t14)) rfl res_nil) rfl) ⟨rfl, rfl⟩ (H.sel' [] rfl rfl)

theorem c_laws_FnExactBucketOf {aPlanes_0 : List (List Int)} {aList_1 : List (Int × (List Int) × Int)} {aAt_2 : List Int} {aBits_3 : Int} {aaPlanes_0 : Option Addr} {caPlanes_0 : Nat} {aaList_1 : Option Addr} {caList_1 : Nat} {aaAt_2 : Option Addr} {caAt_2 : Nat} {r : Bool} (h : M.laws_FnExactBucketOf aPlanes_0 aList_1 aAt_2 aBits_3 = some r) :
    Cal2 Try.prog 5 [(Sl aaPlanes_0 aPlanes_0 caPlanes_0), (Sl aaList_1 aList_1 caList_1), (Sl aaAt_2 aAt_2 caAt_2), (I aBits_3)] [Ch.ro 0 (Sl aaPlanes_0 aPlanes_0 caPlanes_0) aPlanes_0, Ch.ro 0 (Sl aaList_1 aList_1 caList_1) aList_1, Ch.ro 0 (Sl aaAt_2 aAt_2 caAt_2) aAt_2] (fun n0 v L => v = (B r) ∧ L = []) := by
 refine cal2 (n := 118) Try.func5 rfl rfl rfl rfl ?_
 intro S0 σ0 n0 hn0 H
 unfold M.laws_FnExactBucketOf at h
 refine c_seq ?_
 refine rg ?_
 refine st (v := (B false)) (rv_assign rfl) ?_
 refine w_end ?_
 refine q_then ?_
 refine c_seq ?_
 refine c_seq ?_
 refine rg ?_
 refine st (v := (Sl aaAt_2 aAt_2 caAt_2)) (rv_move rfl) ?_
 refine st (v := (I (aAt_2.length : Int))) (rv_len Try.underlying25 rfl) ?_
 refine st (v := (B (decide (1048576 < (aAt_2.length : Int))))) (rv_gtr (a := (aAt_2.length : Int)) (b := 1048576) rfl rfl) ?_
 refine w_end ?_
 refine q_then ?_
 refine cd_cond (decide (1048576 < (aAt_2.length : Int))) rfl (fun hb1 => ?_) (fun hb1 => ?_)
 ·replace h := bif_t hb1 h
  refine c_seq ?_
  refine rg ?_
  refine st (v := (B true)) (rv_assign rfl) ?_
  refine w_end ?_
  refine q_then ?_
  refine c_ret ?_
  refine q_then_r ?_
  obtain rfl := Option.some.inj h
  exact fin_ret (v := (B true)) (results_ok Try.results5 (res_tmp (v := (B true)) rfl res_nil) rfl) ⟨rfl, rfl⟩ (H.sel' [] rfl rfl)
 ·replace h := bif_f hb1 h
  refine c_skip ?_
  refine q_then ?_
  refine c_seq ?_
  refine rg ?_
  refine st (v := (I 1048576)) (rv_assign rfl) ?_
  refine w_end ?_
  refine q_then ?_
  refine c_seq ?_
  refine rg ?_
  refine st (v := (Sl aaPlanes_0 aPlanes_0 caPlanes_0)) (rv_move rfl) ?_
  refine st (v := (I 1048576)) (rv_move rfl) ?_
  obtain ⟨r2, hx3, h'⟩ := bind_some h
  clear h
  have h := h'; clear h'
  have hc4 := c_laws_szIntSS (aa_0 := aaPlanes_0) (ca_0 := caPlanes_0) hx3
  refine st_call (cx_call hc4 (ent_f hc4.fn rfl) hn0 (show Hp S0 σ0 _ ([Ch.ro 0 (Sl aaPlanes_0 aPlanes_0 caPlanes_0) aPlanes_0] ++ [Ch.ro 0 (Sl aaPlanes_0 aPlanes_0 caPlanes_0) aPlanes_0, Ch.ro 0 (Sl aaList_1 aList_1 caList_1) aList_1, Ch.ro 0 (Sl aaAt_2 aAt_2 caAt_2) aAt_2]) from (H.sel' [0, 0, 1, 2] rfl rfl))) wn ?_
  rintro _ σ5 ⟨_, ⟨rfl, rfl⟩, H, -⟩
  replace H : Hp S0 σ0 σ5 [Ch.ro 0 (Sl aaPlanes_0 aPlanes_0 caPlanes_0) aPlanes_0, Ch.ro 0 (Sl aaList_1 aList_1 caList_1) aList_1, Ch.ro 0 (Sl aaAt_2 aAt_2 caAt_2) aAt_2] := H
  refine st (v := (I r2)) (rv_assign rfl) ?_
  refine w_end ?_
  refine q_then ?_
  refine c_seq ?_
  refine c_seq ?_
  refine rg ?_
  refine st (v := (I r2)) (rv_move rfl) ?_
  refine st (v := (B (decide (r2 < 0)))) (rv_lss (a := r2) (b := 0) rfl rfl) ?_
  refine w_end ?_
  refine q_then ?_
  refine cd_cond (decide (r2 < 0)) rfl (fun hb6 => ?_) (fun hb6 => ?_)
  ·replace h := bif_t hb6 h
   refine c_seq ?_
   refine rg ?_
   refine st (v := (B true)) (rv_assign rfl) ?_
   refine w_end ?_
   refine q_then ?_
   refine c_ret ?_
   refine q_then_r ?_
   obtain rfl := Option.some.inj h
   exact fin_ret (v := (B true)) (results_ok Try.results5 (res_tmp (v := (B true)) rfl res_nil) rfl) ⟨rfl, rfl⟩ (H.sel' [] rfl rfl)
  ·replace h := bif_f hb6 h
   refine c_skip ?_
   refine q_then ?_
   refine c_seq ?_
   refine rg ?_
   refine st (v := (Sl aaList_1 aList_1 caList_1)) (rv_move rfl) ?_
   refine st (v := (I r2)) (rv_move rfl) ?_
   obtain ⟨r7, hx8, h'⟩ := bind_some h
   clear h
   have h := h'; clear h'
   have hc9 := c_laws_szItemS (aa_0 := aaList_1) (ca_0 := caList_1) hx8
   refine st_call (cx_call hc9 (ent_f hc9.fn rfl) hn0 (show Hp S0 σ0 _ ([Ch.ro 0 (Sl aaList_1 aList_1 caList_1) aList_1] ++ [Ch.ro 0 (Sl aaPlanes_0 aPlanes_0 caPlanes_0) aPlanes_0, Ch.ro 0 (Sl aaList_1 aList_1 caList_1) aList_1, Ch.ro 0 (Sl aaAt_2 aAt_2 caAt_2) aAt_2]) from (H.sel' [1, 0, 1, 2] rfl rfl))) wn ?_
   rintro _ σ10 ⟨_, ⟨rfl, rfl⟩, H, -⟩
   replace H : Hp S0 σ0 σ10 [Ch.ro 0 (Sl aaPlanes_0 aPlanes_0 caPlanes_0) aPlanes_0, Ch.ro 0 (Sl aaList_1 aList_1 caList_1) aList_1, Ch.ro 0 (Sl aaAt_2 aAt_2 caAt_2) aAt_2] := H
   refine st (v := (I r7)) (rv_assign rfl) ?_
   refine w_end ?_
   refine q_then ?_
   refine c_seq ?_
   refine c_seq ?_
   refine rg ?_
   refine st (v := (I r7)) (rv_move rfl) ?_
   refine st (v := (B (decide (r7 < 0)))) (rv_lss (a := r7) (b := 0) rfl rfl) ?_
   refine w_end ?_
   refine q_then ?_
   refine cd_cond (decide (r7 < 0)) rfl (fun hb11 => ?_) (fun hb11 => ?_)
   ·replace h := bif_t hb11 h
    refine c_seq ?_
    refine rg ?_
    refine st (v := (B true)) (rv_assign rfl) ?_
    refine w_end ?_
    refine q_then ?_
    refine c_ret ?_
    refine q_then_r ?_
    obtain rfl := Option.some.inj h
    exact fin_ret (v := (B true)) (results_ok Try.results5 (res_tmp (v := (B true)) rfl res_nil) rfl) ⟨rfl, rfl⟩ (H.sel' [] rfl rfl)
   ·replace h := bif_f hb11 h
    refine c_skip ?_
    refine q_then ?_
    refine c_seq ?_
    refine rg ?_
    refine st (v := (Sl aaPlanes_0 aPlanes_0 caPlanes_0)) (rv_move rfl) ?_
    obtain ⟨r12, hx13, h'⟩ := bind_some h
    clear h
    have h := h'; clear h'
    have hc14 := c_laws_toIntSS (aa_0 := aaPlanes_0) (ca_0 := caPlanes_0) hx13
    refine st_call (cx_call hc14 (ent_f hc14.fn rfl) hn0 (show Hp S0 σ0 _ ([Ch.ro 0 (Sl aaPlanes_0 aPlanes_0 caPlanes_0) aPlanes_0] ++ [Ch.ro 0 (Sl aaPlanes_0 aPlanes_0 caPlanes_0) aPlanes_0, Ch.ro 0 (Sl aaList_1 aList_1 caList_1) aList_1, Ch.ro 0 (Sl aaAt_2 aAt_2 caAt_2) aAt_2]) from (H.sel' [0, 0, 1, 2] rfl rfl))) wn ?_
    rintro _ σ19 ⟨_, ⟨a15, c16, K17, rfl, rfl, hK18⟩, H, -⟩
    replace H : Hp S0 σ0 σ19 [Ch.big K17, Ch.ro 0 (Sl aaPlanes_0 aPlanes_0 caPlanes_0) aPlanes_0, Ch.ro 0 (Sl aaList_1 aList_1 caList_1) aList_1, Ch.ro 0 (Sl aaAt_2 aAt_2 caAt_2) aAt_2] := H
    refine st (v := (Sl aaList_1 aList_1 caList_1)) (rv_move rfl) ?_
    obtain ⟨r20, hx21, h'⟩ := bind_some h
    clear h
    have h := h'; clear h'
    have hc22 := c_laws_toItemS (aa_0 := aaList_1) (ca_0 := caList_1) hx21
    refine st_call (cx_call hc22 (ent_f hc22.fn rfl) hn0 (show Hp S0 σ0 _ ([Ch.ro 0 (Sl aaList_1 aList_1 caList_1) aList_1] ++ [Ch.big K17, Ch.ro 0 (Sl aaPlanes_0 aPlanes_0 caPlanes_0) aPlanes_0, Ch.ro 0 (Sl aaList_1 aList_1 caList_1) aList_1, Ch.ro 0 (Sl aaAt_2 aAt_2 caAt_2) aAt_2]) from (H.sel' [2, 0, 1, 2, 3] rfl rfl))) wn ?_
    rintro _ σ27 ⟨_, ⟨a23, c24, K25, rfl, rfl, hK26⟩, H, -⟩
    replace H : Hp S0 σ0 σ27 [Ch.big K25, Ch.big K17, Ch.ro 0 (Sl aaPlanes_0 aPlanes_0 caPlanes_0) aPlanes_0, Ch.ro 0 (Sl aaList_1 aList_1 caList_1) aList_1, Ch.ro 0 (Sl aaAt_2 aAt_2 caAt_2) aAt_2] := H
    refine st (v := (Sl aaAt_2 aAt_2 caAt_2)) (rv_move rfl) ?_
    obtain ⟨r28, hx29, h'⟩ := bind_some h
    clear h
    have h := h'; clear h'
    have hc30 := c_laws_toIntS (aa_0 := aaAt_2) (ca_0 := caAt_2) hx29
    refine st_call (cx_call hc30 (ent_f hc30.fn rfl) hn0 (show Hp S0 σ0 _ ([Ch.ro 0 (Sl aaAt_2 aAt_2 caAt_2) aAt_2] ++ [Ch.big K25, Ch.big K17, Ch.ro 0 (Sl aaPlanes_0 aPlanes_0 caPlanes_0) aPlanes_0, Ch.ro 0 (Sl aaList_1 aList_1 caList_1) aList_1, Ch.ro 0 (Sl aaAt_2 aAt_2 caAt_2) aAt_2]) from (H.sel' [4, 0, 1, 2, 3, 4] rfl rfl))) wn ?_
    rintro _ σ34 ⟨_, ⟨a31, c32, rfl, rfl, ht33⟩, H, -⟩
    replace H : Hp S0 σ0 σ34 [Ch.own n0 n0 (Sl a31 r28 c32) r28, Ch.big K25, Ch.big K17, Ch.ro 0 (Sl aaPlanes_0 aPlanes_0 caPlanes_0) aPlanes_0, Ch.ro 0 (Sl aaList_1 aList_1 caList_1) aList_1, Ch.ro 0 (Sl aaAt_2 aAt_2 caAt_2) aAt_2] := H
    refine st (v := (I aBits_3)) (rv_move rfl) ?_
    obtain ⟨σ35, hw36, H, -⟩ := H.pub 0 rfl (Nat.le_refl _)
    rw [← hw36]; clear hw36
    replace H := H.roLow 0 0 rfl (Nat.zero_le _)
    obtain ⟨r37, hx38, h'⟩ := bind_some h
    clear h
    have h := h'; clear h'
    have hc39 := c_spec_BucketOf (aplanes_0 := a15) (cplanes_0 := c16) (alist_1 := a23) (clist_1 := c24) (aat_2 := a31) (cat_2 := c32) hx38
    have hle := Nat.le_trans hn0 H.size
    refine st_call (cx_lend (Loan.lendB hK18.lends (Loan.lendB hK26.lends (Loan.same Loan.nil))) hc39 (ent_f hc39.fn rfl) (show Hp S0 σ0 _ ([Ch.big K17, Ch.big K25] ++ ([Ch.ro 0 (Sl a31 r28 c32) r28] ++ [Ch.ro 0 (Sl a31 r28 c32) r28, Ch.ro n0 (Sl a31 r28 c32) r28, Ch.ro 0 (Sl aaPlanes_0 aPlanes_0 caPlanes_0) aPlanes_0, Ch.ro 0 (Sl aaList_1 aList_1 caList_1) aList_1, Ch.ro 0 (Sl aaAt_2 aAt_2 caAt_2) aAt_2])) from (H.sel' [3, 2, 0, 0, 1, 4, 5, 6] rfl rfl)) (by rintro _ _ _ ⟨_, _, rfl, rfl⟩; exact ⟨Ab.ownSc, trivial⟩)) wn ?_
    rintro _ σ42 ⟨_, ⟨a40, c41, rfl, rfl⟩, H, -, -⟩
    replace H : Hp S0 σ0 σ42 [Ch.own σ35.size σ35.size (Sl a40 r37 c41) r37, Ch.big K17, Ch.big K25, Ch.ro 0 (Sl a31 r28 c32) r28, Ch.ro n0 (Sl a31 r28 c32) r28, Ch.ro 0 (Sl aaPlanes_0 aPlanes_0 caPlanes_0) aPlanes_0, Ch.ro 0 (Sl aaList_1 aList_1 caList_1) aList_1, Ch.ro 0 (Sl aaAt_2 aAt_2 caAt_2) aAt_2] := H
    replace H := H.ownLow 0 n0 n0 rfl hle hle
    clear hle
    replace H : Hp S0 σ0 σ42 [Ch.own n0 n0 (Sl a40 r37 c41) r37, Ch.big K17, Ch.big K25, Ch.ro 0 (Sl a31 r28 c32) r28, Ch.ro n0 (Sl a31 r28 c32) r28, Ch.ro 0 (Sl aaPlanes_0 aPlanes_0 caPlanes_0) aPlanes_0, Ch.ro 0 (Sl aaList_1 aList_1 caList_1) aList_1, Ch.ro 0 (Sl aaAt_2 aAt_2 caAt_2) aAt_2] := H
    replace H : Hp S0 σ0 σ42 [Ch.own n0 n0 (Sl a40 r37 c41) r37, Ch.ro 0 (Sl aaPlanes_0 aPlanes_0 caPlanes_0) aPlanes_0, Ch.ro 0 (Sl aaList_1 aList_1 caList_1) aList_1, Ch.ro 0 (Sl aaAt_2 aAt_2 caAt_2) aAt_2] := H.sel' [0, 5, 6, 7] rfl rfl
    refine st (v := (Sl a40 r37 c41)) (rv_assign rfl) ?_
    refine w_end ?_
    refine q_then ?_
    refine c_seq ?_
    refine rg ?_
    refine st (v := (Sl aaPlanes_0 aPlanes_0 caPlanes_0)) (rv_move rfl) ?_
    obtain ⟨r43, hx44, h'⟩ := bind_some h
    clear h
    have h := h'; clear h'
    have hc45 := c_laws_toIntSS (aa_0 := aaPlanes_0) (ca_0 := caPlanes_0) hx44
    refine st_call (cx_call hc45 (ent_f hc45.fn rfl) hn0 (show Hp S0 σ0 _ ([Ch.ro 0 (Sl aaPlanes_0 aPlanes_0 caPlanes_0) aPlanes_0] ++ [Ch.own n0 n0 (Sl a40 r37 c41) r37, Ch.ro 0 (Sl aaPlanes_0 aPlanes_0 caPlanes_0) aPlanes_0, Ch.ro 0 (Sl aaList_1 aList_1 caList_1) aList_1, Ch.ro 0 (Sl aaAt_2 aAt_2 caAt_2) aAt_2]) from (H.sel' [1, 0, 1, 2, 3] rfl rfl))) wn ?_
    rintro _ σ50 ⟨_, ⟨a46, c47, K48, rfl, rfl, hK49⟩, H, -⟩
    replace H : Hp S0 σ0 σ50 [Ch.big K48, Ch.own n0 n0 (Sl a40 r37 c41) r37, Ch.ro 0 (Sl aaPlanes_0 aPlanes_0 caPlanes_0) aPlanes_0, Ch.ro 0 (Sl aaList_1 aList_1 caList_1) aList_1, Ch.ro 0 (Sl aaAt_2 aAt_2 caAt_2) aAt_2] := H
    refine st (v := (Sl a46 r43 c47)) (rv_assign rfl) ?_
    refine w_end ?_
    refine q_then ?_
    refine c_seq ?_
    refine rg ?_
    refine st (v := (Sl aaList_1 aList_1 caList_1)) (rv_move rfl) ?_
    obtain ⟨r51, hx52, h'⟩ := bind_some h
    clear h
    have h := h'; clear h'
    have hc53 := c_laws_toItemS (aa_0 := aaList_1) (ca_0 := caList_1) hx52
    refine st_call (cx_call hc53 (ent_f hc53.fn rfl) hn0 (show Hp S0 σ0 _ ([Ch.ro 0 (Sl aaList_1 aList_1 caList_1) aList_1] ++ [Ch.big K48, Ch.own n0 n0 (Sl a40 r37 c41) r37, Ch.ro 0 (Sl aaPlanes_0 aPlanes_0 caPlanes_0) aPlanes_0, Ch.ro 0 (Sl aaList_1 aList_1 caList_1) aList_1, Ch.ro 0 (Sl aaAt_2 aAt_2 caAt_2) aAt_2]) from (H.sel' [3, 0, 1, 2, 3, 4] rfl rfl))) wn ?_
    rintro _ σ58 ⟨_, ⟨a54, c55, K56, rfl, rfl, hK57⟩, H, -⟩
    replace H : Hp S0 σ0 σ58 [Ch.big K56, Ch.big K48, Ch.own n0 n0 (Sl a40 r37 c41) r37, Ch.ro 0 (Sl aaPlanes_0 aPlanes_0 caPlanes_0) aPlanes_0, Ch.ro 0 (Sl aaList_1 aList_1 caList_1) aList_1, Ch.ro 0 (Sl aaAt_2 aAt_2 caAt_2) aAt_2] := H
    refine st (v := (Sl a54 r51 c55)) (rv_assign rfl) ?_
    refine w_end ?_
    refine q_then ?_
    refine c_seq ?_
    refine rg ?_
    refine st (v := (Sl aaAt_2 aAt_2 caAt_2)) (rv_move rfl) ?_
    obtain ⟨r59, hx60, h'⟩ := bind_some h
    clear h
    have h := h'; clear h'
    have hc61 := c_laws_toIntS (aa_0 := aaAt_2) (ca_0 := caAt_2) hx60
    refine st_call (cx_call hc61 (ent_f hc61.fn rfl) hn0 (show Hp S0 σ0 _ ([Ch.ro 0 (Sl aaAt_2 aAt_2 caAt_2) aAt_2] ++ [Ch.big K56, Ch.big K48, Ch.own n0 n0 (Sl a40 r37 c41) r37, Ch.ro 0 (Sl aaPlanes_0 aPlanes_0 caPlanes_0) aPlanes_0, Ch.ro 0 (Sl aaList_1 aList_1 caList_1) aList_1, Ch.ro 0 (Sl aaAt_2 aAt_2 caAt_2) aAt_2]) from (H.sel' [5, 0, 1, 2, 3, 4, 5] rfl rfl))) wn ?_
    rintro _ σ65 ⟨_, ⟨a62, c63, rfl, rfl, ht64⟩, H, -⟩
    replace H : Hp S0 σ0 σ65 [Ch.own n0 n0 (Sl a62 r59 c63) r59, Ch.big K56, Ch.big K48, Ch.own n0 n0 (Sl a40 r37 c41) r37, Ch.ro 0 (Sl aaPlanes_0 aPlanes_0 caPlanes_0) aPlanes_0, Ch.ro 0 (Sl aaList_1 aList_1 caList_1) aList_1, Ch.ro 0 (Sl aaAt_2 aAt_2 caAt_2) aAt_2] := H
    refine st (v := (Sl a62 r59 c63)) (rv_assign rfl) ?_
    refine w_end ?_
    refine q_then ?_
    refine c_seq ?_
    refine rg ?_
    refine st (v := (Sl a46 r43 c47)) (rv_move rfl) ?_
    refine st (v := (Sl a54 r51 c55)) (rv_move rfl) ?_
    refine st (v := (Sl a62 r59 c63)) (rv_move rfl) ?_
    refine st (v := (I aBits_3)) (rv_move rfl) ?_
    obtain ⟨r66, hx67, h'⟩ := bind_some h
    clear h
    have h := h'; clear h'
    have hc68 := c_impl_BucketOf (aplanes_0 := a46) (cplanes_0 := c47) (alist_1 := a54) (clist_1 := c55) (aat_2 := a62) (cat_2 := c63) hx67
    have hle := Nat.le_trans hn0 H.size
    refine st_call (cx_lend (Loan.lendB hK49.lends (Loan.lendB hK57.lends (Loan.lend Loan.nil))) hc68 (ent_f hc68.fn rfl) (show Hp S0 σ0 _ ([Ch.big K48, Ch.big K56, Ch.own n0 n0 (Sl a62 r59 c63) r59] ++ ([] ++ [Ch.own n0 n0 (Sl a40 r37 c41) r37, Ch.ro 0 (Sl aaPlanes_0 aPlanes_0 caPlanes_0) aPlanes_0, Ch.ro 0 (Sl aaList_1 aList_1 caList_1) aList_1, Ch.ro 0 (Sl aaAt_2 aAt_2 caAt_2) aAt_2])) from (H.sel' [2, 1, 0, 3, 4, 5, 6] rfl rfl)) (by rintro _ _ _ ⟨_, _, rfl, rfl, _⟩; exact ⟨Ab.ownSc, trivial⟩)) wn ?_
    rintro _ σ72 ⟨_, ⟨a69, c70, rfl, rfl, ht71⟩, H, -, -⟩
    replace H : Hp S0 σ0 σ72 [Ch.own σ65.size σ65.size (Sl a69 r66 c70) r66, Ch.big K48, Ch.big K56, Ch.own n0 n0 (Sl a62 r59 c63) r59, Ch.own n0 n0 (Sl a40 r37 c41) r37, Ch.ro 0 (Sl aaPlanes_0 aPlanes_0 caPlanes_0) aPlanes_0, Ch.ro 0 (Sl aaList_1 aList_1 caList_1) aList_1, Ch.ro 0 (Sl aaAt_2 aAt_2 caAt_2) aAt_2] := H
    replace H := H.ownLow 0 n0 n0 rfl hle hle
    clear hle
    replace H : Hp S0 σ0 σ72 [Ch.own n0 n0 (Sl a69 r66 c70) r66, Ch.big K48, Ch.big K56, Ch.own n0 n0 (Sl a62 r59 c63) r59, Ch.own n0 n0 (Sl a40 r37 c41) r37, Ch.ro 0 (Sl aaPlanes_0 aPlanes_0 caPlanes_0) aPlanes_0, Ch.ro 0 (Sl aaList_1 aList_1 caList_1) aList_1, Ch.ro 0 (Sl aaAt_2 aAt_2 caAt_2) aAt_2] := H
    refine st (v := (Sl a69 r66 c70)) (rv_assign rfl) ?_
    refine w_end ?_
    refine q_then ?_
    refine c_seq ?_
    refine c_seq ?_
    refine rg ?_
    refine st (v := (Sl a69 r66 c70)) (rv_move rfl) ?_
    refine st (v := (Sl a40 r37 c41)) (rv_move rfl) ?_
    obtain ⟨r73, hx74, h'⟩ := bind_some h
    clear h
    have h := h'; clear h'
    have hc75 := c_laws_eqIntS (aa_0 := a69) (ca_0 := c70) (ab_1 := a40) (cb_1 := c41) hx74
    have hle := Nat.le_trans hn0 H.size
    refine st_call (cx_lend (Loan.lend (Loan.lend Loan.nil)) hc75 (ent_f hc75.fn rfl) (show Hp S0 σ0 _ ([Ch.own n0 n0 (Sl a69 r66 c70) r66, Ch.own n0 n0 (Sl a40 r37 c41) r37] ++ ([] ++ [Ch.big K48, Ch.big K56, Ch.own n0 n0 (Sl a62 r59 c63) r59, Ch.ro 0 (Sl aaPlanes_0 aPlanes_0 caPlanes_0) aPlanes_0, Ch.ro 0 (Sl aaList_1 aList_1 caList_1) aList_1, Ch.ro 0 (Sl aaAt_2 aAt_2 caAt_2) aAt_2])) from (H.sel' [0, 4, 1, 2, 3, 5, 6, 7] rfl rfl)) (by rintro _ _ _ ⟨rfl, rfl⟩; exact trivial)) wn ?_
    rintro _ σ76 ⟨_, ⟨rfl, rfl⟩, H, -, -⟩
    replace H : Hp S0 σ0 σ76 [Ch.own n0 n0 (Sl a69 r66 c70) r66, Ch.own n0 n0 (Sl a40 r37 c41) r37, Ch.big K48, Ch.big K56, Ch.own n0 n0 (Sl a62 r59 c63) r59, Ch.ro 0 (Sl aaPlanes_0 aPlanes_0 caPlanes_0) aPlanes_0, Ch.ro 0 (Sl aaList_1 aList_1 caList_1) aList_1, Ch.ro 0 (Sl aaAt_2 aAt_2 caAt_2) aAt_2] := H
    clear hle
    replace H : Hp S0 σ0 σ76 [Ch.own n0 n0 (Sl a69 r66 c70) r66, Ch.own n0 n0 (Sl a40 r37 c41) r37, Ch.big K48, Ch.big K56, Ch.own n0 n0 (Sl a62 r59 c63) r59, Ch.ro 0 (Sl aaPlanes_0 aPlanes_0 caPlanes_0) aPlanes_0, Ch.ro 0 (Sl aaList_1 aList_1 caList_1) aList_1, Ch.ro 0 (Sl aaAt_2 aAt_2 caAt_2) aAt_2] := H
    refine st (v := (B (!r73))) (rv_not rfl) ?_
    refine w_end ?_
    refine q_then ?_
    refine cd_cond (!r73) rfl (fun hb77 => ?_) (fun hb77 => ?_)
    ·replace h := bif_t hb77 h
     refine c_seq ?_
     refine rg ?_
     refine st (v := (B false)) (rv_assign rfl) ?_
     refine w_end ?_
     refine q_then ?_
     refine c_ret ?_
     refine q_then_r ?_
     obtain rfl := Option.some.inj h
     exact fin_ret (v := (B false)) (results_ok Try.results5 (res_tmp (v := (B false)) rfl res_nil) rfl) ⟨rfl, rfl⟩ (H.sel' [] rfl rfl)
    ·replace h := bif_f hb77 h
     refine c_skip ?_
     refine q_then ?_
     refine c_seq ?_
     refine c_seq ?_
     refine rg ?_
     refine st (v := (Sl a46 r43 c47)) (rv_move rfl) ?_
     refine st (v := (Sl aaPlanes_0 aPlanes_0 caPlanes_0)) (rv_move rfl) ?_
     obtain ⟨r78, hx79, h'⟩ := bind_some h
     clear h
     have h := h'; clear h'
     have hc80 := c_laws_toIntSS (aa_0 := aaPlanes_0) (ca_0 := caPlanes_0) hx79
     refine st_call (cx_call hc80 (ent_f hc80.fn rfl) hn0 (show Hp S0 σ0 _ ([Ch.ro 0 (Sl aaPlanes_0 aPlanes_0 caPlanes_0) aPlanes_0] ++ [Ch.own n0 n0 (Sl a69 r66 c70) r66, Ch.own n0 n0 (Sl a40 r37 c41) r37, Ch.big K48, Ch.big K56, Ch.own n0 n0 (Sl a62 r59 c63) r59, Ch.ro 0 (Sl aaPlanes_0 aPlanes_0 caPlanes_0) aPlanes_0, Ch.ro 0 (Sl aaList_1 aList_1 caList_1) aList_1, Ch.ro 0 (Sl aaAt_2 aAt_2 caAt_2) aAt_2]) from (H.sel' [5, 0, 1, 2, 3, 4, 5, 6, 7] rfl rfl))) wn ?_
     rintro _ σ85 ⟨_, ⟨a81, c82, K83, rfl, rfl, hK84⟩, H, -⟩
     replace H : Hp S0 σ0 σ85 [Ch.big K83, Ch.own n0 n0 (Sl a69 r66 c70) r66, Ch.own n0 n0 (Sl a40 r37 c41) r37, Ch.big K48, Ch.big K56, Ch.own n0 n0 (Sl a62 r59 c63) r59, Ch.ro 0 (Sl aaPlanes_0 aPlanes_0 caPlanes_0) aPlanes_0, Ch.ro 0 (Sl aaList_1 aList_1 caList_1) aList_1, Ch.ro 0 (Sl aaAt_2 aAt_2 caAt_2) aAt_2] := H
     obtain ⟨r86, hx87, h'⟩ := bind_some h
     clear h
     have h := h'; clear h'
     have hc88 := c_laws_eqIntSS (aa_0 := a46) (ca_0 := c47) (ab_1 := a81) (cb_1 := c82) hx87
     have hle := Nat.le_trans hn0 H.size
     refine st_call (cx_lend (Loan.lendB hK49.lends (Loan.lendB hK84.lends Loan.nil)) hc88 (ent_f hc88.fn rfl) (show Hp S0 σ0 _ ([Ch.big K48, Ch.big K83] ++ ([] ++ [Ch.own n0 n0 (Sl a69 r66 c70) r66, Ch.own n0 n0 (Sl a40 r37 c41) r37, Ch.big K56, Ch.own n0 n0 (Sl a62 r59 c63) r59, Ch.ro 0 (Sl aaPlanes_0 aPlanes_0 caPlanes_0) aPlanes_0, Ch.ro 0 (Sl aaList_1 aList_1 caList_1) aList_1, Ch.ro 0 (Sl aaAt_2 aAt_2 caAt_2) aAt_2])) from (H.sel' [3, 0, 1, 2, 4, 5, 6, 7, 8] rfl rfl)) (by rintro _ _ _ ⟨rfl, rfl⟩; exact trivial)) wn ?_
     rintro _ σ89 ⟨_, ⟨rfl, rfl⟩, H, -, -⟩
     replace H : Hp S0 σ0 σ89 [Ch.big K48, Ch.big K83, Ch.own n0 n0 (Sl a69 r66 c70) r66, Ch.own n0 n0 (Sl a40 r37 c41) r37, Ch.big K56, Ch.own n0 n0 (Sl a62 r59 c63) r59, Ch.ro 0 (Sl aaPlanes_0 aPlanes_0 caPlanes_0) aPlanes_0, Ch.ro 0 (Sl aaList_1 aList_1 caList_1) aList_1, Ch.ro 0 (Sl aaAt_2 aAt_2 caAt_2) aAt_2] := H
     clear hle
     replace H : Hp S0 σ0 σ89 [Ch.big K48, Ch.big K83, Ch.own n0 n0 (Sl a69 r66 c70) r66, Ch.own n0 n0 (Sl a40 r37 c41) r37, Ch.big K56, Ch.own n0 n0 (Sl a62 r59 c63) r59, Ch.ro 0 (Sl aaPlanes_0 aPlanes_0 caPlanes_0) aPlanes_0, Ch.ro 0 (Sl aaList_1 aList_1 caList_1) aList_1, Ch.ro 0 (Sl aaAt_2 aAt_2 caAt_2) aAt_2] := H
     replace H : Hp S0 σ0 σ89 [Ch.big K48, Ch.own n0 n0 (Sl a69 r66 c70) r66, Ch.own n0 n0 (Sl a40 r37 c41) r37, Ch.big K56, Ch.own n0 n0 (Sl a62 r59 c63) r59, Ch.ro 0 (Sl aaPlanes_0 aPlanes_0 caPlanes_0) aPlanes_0, Ch.ro 0 (Sl aaList_1 aList_1 caList_1) aList_1, Ch.ro 0 (Sl aaAt_2 aAt_2 caAt_2) aAt_2] := H.sel' [0, 2, 3, 4, 5, 6, 7, 8] rfl rfl
     refine st (v := (B (!r86))) (rv_not rfl) ?_
     refine w_end ?_
     refine q_then ?_
     refine cd_cond (!r86) rfl (fun hb90 => ?_) (fun hb90 => ?_)
     ·replace h := bif_t hb90 h
      refine c_seq ?_
      refine rg ?_
      refine st (v := (B false)) (rv_assign rfl) ?_
      refine w_end ?_
      refine q_then ?_
      refine c_ret ?_
      refine q_then_r ?_
      obtain rfl := Option.some.inj h
      exact fin_ret (v := (B false)) (results_ok Try.results5 (res_tmp (v := (B false)) rfl res_nil) rfl) ⟨rfl, rfl⟩ (H.sel' [] rfl rfl)
     ·replace h := bif_f hb90 h
      refine c_skip ?_
      refine q_then ?_
      refine c_seq ?_
      refine c_seq ?_
      refine rg ?_
      refine st (v := (Sl a54 r51 c55)) (rv_move rfl) ?_
      refine st (v := (Sl aaList_1 aList_1 caList_1)) (rv_move rfl) ?_
      obtain ⟨r91, hx92, h'⟩ := bind_some h
      clear h
      have h := h'; clear h'
      have hc93 := c_laws_toItemS (aa_0 := aaList_1) (ca_0 := caList_1) hx92
      refine st_call (cx_call hc93 (ent_f hc93.fn rfl) hn0 (show Hp S0 σ0 _ ([Ch.ro 0 (Sl aaList_1 aList_1 caList_1) aList_1] ++ [Ch.big K48, Ch.own n0 n0 (Sl a69 r66 c70) r66, Ch.own n0 n0 (Sl a40 r37 c41) r37, Ch.big K56, Ch.own n0 n0 (Sl a62 r59 c63) r59, Ch.ro 0 (Sl aaPlanes_0 aPlanes_0 caPlanes_0) aPlanes_0, Ch.ro 0 (Sl aaList_1 aList_1 caList_1) aList_1, Ch.ro 0 (Sl aaAt_2 aAt_2 caAt_2) aAt_2]) from (H.sel' [6, 0, 1, 2, 3, 4, 5, 6, 7] rfl rfl))) wn ?_
      rintro _ σ98 ⟨_, ⟨a94, c95, K96, rfl, rfl, hK97⟩, H, -⟩
      replace H : Hp S0 σ0 σ98 [Ch.big K96, Ch.big K48, Ch.own n0 n0 (Sl a69 r66 c70) r66, Ch.own n0 n0 (Sl a40 r37 c41) r37, Ch.big K56, Ch.own n0 n0 (Sl a62 r59 c63) r59, Ch.ro 0 (Sl aaPlanes_0 aPlanes_0 caPlanes_0) aPlanes_0, Ch.ro 0 (Sl aaList_1 aList_1 caList_1) aList_1, Ch.ro 0 (Sl aaAt_2 aAt_2 caAt_2) aAt_2] := H
      obtain ⟨r99, hx100, h'⟩ := bind_some h
      clear h
      have h := h'; clear h'
      have hc101 := c_laws_eqItemS (aa_0 := a54) (ca_0 := c55) (ab_1 := a94) (cb_1 := c95) hx100
      have hle := Nat.le_trans hn0 H.size
      refine st_call (cx_lend (Loan.lendB hK57.lends (Loan.lendB hK97.lends Loan.nil)) hc101 (ent_f hc101.fn rfl) (show Hp S0 σ0 _ ([Ch.big K56, Ch.big K96] ++ ([] ++ [Ch.big K48, Ch.own n0 n0 (Sl a69 r66 c70) r66, Ch.own n0 n0 (Sl a40 r37 c41) r37, Ch.own n0 n0 (Sl a62 r59 c63) r59, Ch.ro 0 (Sl aaPlanes_0 aPlanes_0 caPlanes_0) aPlanes_0, Ch.ro 0 (Sl aaList_1 aList_1 caList_1) aList_1, Ch.ro 0 (Sl aaAt_2 aAt_2 caAt_2) aAt_2])) from (H.sel' [4, 0, 1, 2, 3, 5, 6, 7, 8] rfl rfl)) (by rintro _ _ _ ⟨rfl, rfl⟩; exact trivial)) wn ?_
      rintro _ σ102 ⟨_, ⟨rfl, rfl⟩, H, -, -⟩
      replace H : Hp S0 σ0 σ102 [Ch.big K56, Ch.big K96, Ch.big K48, Ch.own n0 n0 (Sl a69 r66 c70) r66, Ch.own n0 n0 (Sl a40 r37 c41) r37, Ch.own n0 n0 (Sl a62 r59 c63) r59, Ch.ro 0 (Sl aaPlanes_0 aPlanes_0 caPlanes_0) aPlanes_0, Ch.ro 0 (Sl aaList_1 aList_1 caList_1) aList_1, Ch.ro 0 (Sl aaAt_2 aAt_2 caAt_2) aAt_2] := H
      clear hle
      replace H : Hp S0 σ0 σ102 [Ch.big K56, Ch.big K96, Ch.big K48, Ch.own n0 n0 (Sl a69 r66 c70) r66, Ch.own n0 n0 (Sl a40 r37 c41) r37, Ch.own n0 n0 (Sl a62 r59 c63) r59, Ch.ro 0 (Sl aaPlanes_0 aPlanes_0 caPlanes_0) aPlanes_0, Ch.ro 0 (Sl aaList_1 aList_1 caList_1) aList_1, Ch.ro 0 (Sl aaAt_2 aAt_2 caAt_2) aAt_2] := H
      replace H : Hp S0 σ0 σ102 [Ch.big K56, Ch.big K48, Ch.own n0 n0 (Sl a69 r66 c70) r66, Ch.own n0 n0 (Sl a40 r37 c41) r37, Ch.own n0 n0 (Sl a62 r59 c63) r59, Ch.ro 0 (Sl aaPlanes_0 aPlanes_0 caPlanes_0) aPlanes_0, Ch.ro 0 (Sl aaList_1 aList_1 caList_1) aList_1, Ch.ro 0 (Sl aaAt_2 aAt_2 caAt_2) aAt_2] := H.sel' [0, 2, 3, 4, 5, 6, 7, 8] rfl rfl
      refine st (v := (B (!r99))) (rv_not rfl) ?_
      refine w_end ?_
      refine q_then ?_
      refine cd_cond (!r99) rfl (fun hb103 => ?_) (fun hb103 => ?_)
      ·replace h := bif_t hb103 h
       refine c_seq ?_
       refine rg ?_
       refine st (v := (B false)) (rv_assign rfl) ?_
       refine w_end ?_
       refine q_then ?_
       refine c_ret ?_
       refine q_then_r ?_
       obtain rfl := Option.some.inj h
       exact fin_ret (v := (B false)) (results_ok Try.results5 (res_tmp (v := (B false)) rfl res_nil) rfl) ⟨rfl, rfl⟩ (H.sel' [] rfl rfl)
      ·replace h := bif_f hb103 h
       refine c_skip ?_
       refine q_then ?_
       refine c_seq ?_
       refine c_seq ?_
       refine rg ?_
       refine st (v := (Sl a62 r59 c63)) (rv_move rfl) ?_
       refine st (v := (Sl aaAt_2 aAt_2 caAt_2)) (rv_move rfl) ?_
       obtain ⟨r104, hx105, h'⟩ := bind_some h
       clear h
       have h := h'; clear h'
       have hc106 := c_laws_toIntS (aa_0 := aaAt_2) (ca_0 := caAt_2) hx105
       refine st_call (cx_call hc106 (ent_f hc106.fn rfl) hn0 (show Hp S0 σ0 _ ([Ch.ro 0 (Sl aaAt_2 aAt_2 caAt_2) aAt_2] ++ [Ch.big K56, Ch.big K48, Ch.own n0 n0 (Sl a69 r66 c70) r66, Ch.own n0 n0 (Sl a40 r37 c41) r37, Ch.own n0 n0 (Sl a62 r59 c63) r59, Ch.ro 0 (Sl aaPlanes_0 aPlanes_0 caPlanes_0) aPlanes_0, Ch.ro 0 (Sl aaList_1 aList_1 caList_1) aList_1, Ch.ro 0 (Sl aaAt_2 aAt_2 caAt_2) aAt_2]) from (H.sel' [7, 0, 1, 2, 3, 4, 5, 6, 7] rfl rfl))) wn ?_
       rintro _ σ110 ⟨_, ⟨a107, c108, rfl, rfl, ht109⟩, H, -⟩
       replace H : Hp S0 σ0 σ110 [Ch.own n0 n0 (Sl a107 r104 c108) r104, Ch.big K56, Ch.big K48, Ch.own n0 n0 (Sl a69 r66 c70) r66, Ch.own n0 n0 (Sl a40 r37 c41) r37, Ch.own n0 n0 (Sl a62 r59 c63) r59, Ch.ro 0 (Sl aaPlanes_0 aPlanes_0 caPlanes_0) aPlanes_0, Ch.ro 0 (Sl aaList_1 aList_1 caList_1) aList_1, Ch.ro 0 (Sl aaAt_2 aAt_2 caAt_2) aAt_2] := H
       obtain ⟨σ111, hw112, H, -⟩ := H.pub 0 rfl (Nat.le_refl _)
       rw [← hw112]; clear hw112
       replace H := H.roLow 0 0 rfl (Nat.zero_le _)
       obtain ⟨r113, hx114, h'⟩ := bind_some h
       clear h
       have h := h'; clear h'
       have hc115 := c_laws_eqIntS (aa_0 := a62) (ca_0 := c63) (ab_1 := a107) (cb_1 := c108) hx114
       have hle := Nat.le_trans hn0 H.size
       refine st_call (cx_lend (Loan.lend (Loan.same Loan.nil)) hc115 (ent_f hc115.fn rfl) (show Hp S0 σ0 _ ([Ch.own n0 n0 (Sl a62 r59 c63) r59] ++ ([Ch.ro 0 (Sl a107 r104 c108) r104] ++ [Ch.ro 0 (Sl a107 r104 c108) r104, Ch.ro n0 (Sl a107 r104 c108) r104, Ch.big K56, Ch.big K48, Ch.own n0 n0 (Sl a69 r66 c70) r66, Ch.own n0 n0 (Sl a40 r37 c41) r37, Ch.ro 0 (Sl aaPlanes_0 aPlanes_0 caPlanes_0) aPlanes_0, Ch.ro 0 (Sl aaList_1 aList_1 caList_1) aList_1, Ch.ro 0 (Sl aaAt_2 aAt_2 caAt_2) aAt_2])) from (H.sel' [6, 0, 0, 1, 2, 3, 4, 5, 7, 8, 9] rfl rfl)) (by rintro _ _ _ ⟨rfl, rfl⟩; exact trivial)) wn ?_
       rintro _ σ116 ⟨_, ⟨rfl, rfl⟩, H, -, -⟩
       replace H : Hp S0 σ0 σ116 [Ch.own n0 n0 (Sl a62 r59 c63) r59, Ch.ro 0 (Sl a107 r104 c108) r104, Ch.ro n0 (Sl a107 r104 c108) r104, Ch.big K56, Ch.big K48, Ch.own n0 n0 (Sl a69 r66 c70) r66, Ch.own n0 n0 (Sl a40 r37 c41) r37, Ch.ro 0 (Sl aaPlanes_0 aPlanes_0 caPlanes_0) aPlanes_0, Ch.ro 0 (Sl aaList_1 aList_1 caList_1) aList_1, Ch.ro 0 (Sl aaAt_2 aAt_2 caAt_2) aAt_2] := H
       clear hle
       replace H : Hp S0 σ0 σ116 [Ch.own n0 n0 (Sl a62 r59 c63) r59, Ch.ro 0 (Sl a107 r104 c108) r104, Ch.ro n0 (Sl a107 r104 c108) r104, Ch.big K56, Ch.big K48, Ch.own n0 n0 (Sl a69 r66 c70) r66, Ch.own n0 n0 (Sl a40 r37 c41) r37, Ch.ro 0 (Sl aaPlanes_0 aPlanes_0 caPlanes_0) aPlanes_0, Ch.ro 0 (Sl aaList_1 aList_1 caList_1) aList_1, Ch.ro 0 (Sl aaAt_2 aAt_2 caAt_2) aAt_2] := H
       replace H : Hp S0 σ0 σ116 [Ch.own n0 n0 (Sl a62 r59 c63) r59, Ch.big K56, Ch.big K48, Ch.own n0 n0 (Sl a69 r66 c70) r66, Ch.own n0 n0 (Sl a40 r37 c41) r37, Ch.ro 0 (Sl aaPlanes_0 aPlanes_0 caPlanes_0) aPlanes_0, Ch.ro 0 (Sl aaList_1 aList_1 caList_1) aList_1, Ch.ro 0 (Sl aaAt_2 aAt_2 caAt_2) aAt_2] := H.sel' [0, 3, 4, 5, 6, 7, 8, 9] rfl rfl
       refine st (v := (B (!r113))) (rv_not rfl) ?_
       refine w_end ?_
       refine q_then ?_
       refine cd_cond (!r113) rfl (fun hb117 => ?_) (fun hb117 => ?_)
       ·replace h := bif_t hb117 h
        refine c_seq ?_
        refine rg ?_
        refine st (v := (B false)) (rv_assign rfl) ?_
        refine w_end ?_
        refine q_then ?_
        refine c_ret ?_
        refine q_then_r ?_
        obtain rfl := Option.some.inj h
        exact fin_ret (v := (B false)) (results_ok Try.results5 (res_tmp (v := (B false)) rfl res_nil) rfl) ⟨rfl, rfl⟩ (H.sel' [] rfl rfl)
       ·replace h := bif_f hb117 h
        refine c_skip ?_
        refine q_then ?_
        refine c_seq ?_
        refine rg ?_
        refine st (v := (I 1)) (rv_assign rfl) ?_
        refine w_end ?_
        refine q_then ?_
        refine c_seq ?_
        refine rg ?_
        refine st (v := (Sl a46 r43 c47)) (rv_move rfl) ?_
        refine st (v := (I 1)) (rv_move rfl) ?_
        obtain ⟨r118, hx119, h'⟩ := bind_some h
        clear h
        have h := h'; clear h'
        have hc120 := c_laws_markIntSS (aa_0 := a46) (ca_0 := c47) (hK := hK49) hx119
        refine st_call (cx_call hc120 (ent_f hc120.fn rfl) hn0 (show Hp S0 σ0 _ ([Ch.big K48] ++ [Ch.own n0 n0 (Sl a62 r59 c63) r59, Ch.big K56, Ch.own n0 n0 (Sl a69 r66 c70) r66, Ch.own n0 n0 (Sl a40 r37 c41) r37, Ch.ro 0 (Sl aaPlanes_0 aPlanes_0 caPlanes_0) aPlanes_0, Ch.ro 0 (Sl aaList_1 aList_1 caList_1) aList_1, Ch.ro 0 (Sl aaAt_2 aAt_2 caAt_2) aAt_2]) from (H.sel' [2, 0, 1, 3, 4, 5, 6, 7] rfl rfl))) wn ?_
        rintro _ σ121 ⟨_, ⟨rfl, rfl⟩, H, -⟩
        replace H : Hp S0 σ0 σ121 [Ch.own n0 n0 (Sl a62 r59 c63) r59, Ch.big K56, Ch.own n0 n0 (Sl a69 r66 c70) r66, Ch.own n0 n0 (Sl a40 r37 c41) r37, Ch.ro 0 (Sl aaPlanes_0 aPlanes_0 caPlanes_0) aPlanes_0, Ch.ro 0 (Sl aaList_1 aList_1 caList_1) aList_1, Ch.ro 0 (Sl aaAt_2 aAt_2 caAt_2) aAt_2] := H
        refine st (v := (I r118)) (rv_assign rfl) ?_
        refine w_end ?_
        refine q_then ?_
        refine c_seq ?_
        refine rg ?_
        refine st (v := (Sl a54 r51 c55)) (rv_move rfl) ?_
        refine st (v := (I r118)) (rv_move rfl) ?_
        obtain ⟨r122, hx123, h'⟩ := bind_some h
        clear h
        have h := h'; clear h'
        have hc124 := c_laws_markItemS (aa_0 := a54) (ca_0 := c55) (hK := hK57) hx123
        refine st_call (cx_call hc124 (ent_f hc124.fn rfl) hn0 (show Hp S0 σ0 _ ([Ch.big K56] ++ [Ch.own n0 n0 (Sl a62 r59 c63) r59, Ch.own n0 n0 (Sl a69 r66 c70) r66, Ch.own n0 n0 (Sl a40 r37 c41) r37, Ch.ro 0 (Sl aaPlanes_0 aPlanes_0 caPlanes_0) aPlanes_0, Ch.ro 0 (Sl aaList_1 aList_1 caList_1) aList_1, Ch.ro 0 (Sl aaAt_2 aAt_2 caAt_2) aAt_2]) from (H.sel' [1, 0, 2, 3, 4, 5, 6] rfl rfl))) wn ?_
        rintro _ σ125 ⟨_, ⟨rfl, rfl⟩, H, -⟩
        replace H : Hp S0 σ0 σ125 [Ch.own n0 n0 (Sl a62 r59 c63) r59, Ch.own n0 n0 (Sl a69 r66 c70) r66, Ch.own n0 n0 (Sl a40 r37 c41) r37, Ch.ro 0 (Sl aaPlanes_0 aPlanes_0 caPlanes_0) aPlanes_0, Ch.ro 0 (Sl aaList_1 aList_1 caList_1) aList_1, Ch.ro 0 (Sl aaAt_2 aAt_2 caAt_2) aAt_2] := H
        refine st (v := (I r122)) (rv_assign rfl) ?_
        refine w_end ?_
        refine q_then ?_
        refine c_seq ?_
        refine rg ?_
        refine st (v := (Sl a62 r59 c63)) (rv_move rfl) ?_
        refine st (v := (I r122)) (rv_move rfl) ?_
        replace H := H.ownLow 0 0 0 rfl (Nat.zero_le _) (Nat.zero_le _)
        obtain ⟨r126, hx127, h'⟩ := bind_some h
        clear h
        have h := h'; clear h'
        have hc128 := c_laws_markIntS (aa_0 := a62) (ca_0 := c63) hx127
        refine st_call (cx_call hc128 (ent_f hc128.fn rfl) hn0 (show Hp S0 σ0 _ ([Ch.own 0 0 (Sl a62 r59 c63) r59] ++ [Ch.own n0 n0 (Sl a69 r66 c70) r66, Ch.own n0 n0 (Sl a40 r37 c41) r37, Ch.ro 0 (Sl aaPlanes_0 aPlanes_0 caPlanes_0) aPlanes_0, Ch.ro 0 (Sl aaList_1 aList_1 caList_1) aList_1, Ch.ro 0 (Sl aaAt_2 aAt_2 caAt_2) aAt_2]) from (H.sel' [0, 1, 2, 3, 4, 5] rfl rfl))) wn ?_
        rintro _ σ130 ⟨_, ⟨rfl, rfl, hn129⟩, H, -⟩
        replace H : Hp S0 σ0 σ130 [Ch.own 0 0 (Sl a62 r126.2 c63) r126.2, Ch.own n0 n0 (Sl a69 r66 c70) r66, Ch.own n0 n0 (Sl a40 r37 c41) r37, Ch.ro 0 (Sl aaPlanes_0 aPlanes_0 caPlanes_0) aPlanes_0, Ch.ro 0 (Sl aaList_1 aList_1 caList_1) aList_1, Ch.ro 0 (Sl aaAt_2 aAt_2 caAt_2) aAt_2] := H
        have hsl : (Sl a62 r59 c63) = (Sl a62 r126.2 c63) := sl_len hn129.symm
        try rw [hsl]
        try rw [hsl] at H
        clear hsl
        refine st (v := (I r126.1)) (rv_assign rfl) ?_
        refine w_end ?_
        refine q_then ?_
        refine c_seq ?_
        refine c_seq ?_
        obtain ⟨o131, hj, h'⟩ := bind_some h
        clear h
        refine c_cut (fun e a w => e = .normal ∧ ∃ (ρ : Nat → Value) (σ : St), a = fr 118 (updL ρ [(0, (Sl aaPlanes_0 aPlanes_0 caPlanes_0)), (1, (Sl aaList_1 aList_1 caList_1)), (2, (Sl aaAt_2 aAt_2 caAt_2)), (3, (I aBits_3)), (10, (Sl a40 r37 c41)), (14, (Sl a69 r66 c70)), (86, (B o131))]) ∧ w = σ.w ∧ Hp S0 σ0 σ [Ch.ro 0 (Sl aaPlanes_0 aPlanes_0 caPlanes_0) aPlanes_0, Ch.ro 0 (Sl aaList_1 aList_1 caList_1) aList_1, Ch.ro 0 (Sl aaAt_2 aAt_2 caAt_2) aAt_2, Ch.own n0 n0 (Sl a40 r37 c41) r37, Ch.own n0 n0 (Sl a69 r66 c70) r66]) ?_ ?_
        ·clear h'
         rename _ = some o131 => h
         refine rg ?_
         refine st (v := (I r126.1)) (rv_move rfl) ?_
         refine st (v := (B (decide (r126.1 < 0)))) (rv_lss (a := r126.1) (b := 0) rfl rfl) ?_
         refine st (v := (B (decide (r126.1 < 0)))) (rv_move rfl) ?_
         rcases Bool.eq_false_or_eq_true (decide (r126.1 < 0)) with hb132 | hb132
         ·replace h := bif_t hb132 h
          refine st_skip (congrArg some hb132) ?_
          refine st_skip (congrArg some hb132) ?_
          refine st_skip (congrArg some hb132) ?_
          refine st_skip (congrArg some hb132) ?_
          refine st (v := (B true)) (rv_pick_t (congrArg B hb132) rfl) ?_
          refine w_end ?_
          obtain rfl := Option.some.inj h
          exact ⟨rfl, _, σ130, fr_join ⟨rfl, rfl, rfl, rfl, rfl, rfl, rfl, trivial⟩, rfl, H.sel' [3, 4, 5, 2, 1] rfl rfl⟩
         ·replace h := bif_f hb132 h
          refine st_g (v := (Sl a69 r66 c70)) (congrArg some hb132) (rv_move rfl) ?_
          refine st_g (v := (Sl a40 r37 c41)) (congrArg some hb132) (rv_move rfl) ?_
          obtain ⟨r133, hx134, h'⟩ := bind_some h
          clear h
          have h := h'; clear h'
          have hc135 := c_laws_eqIntS (aa_0 := a69) (ca_0 := c70) (ab_1 := a40) (cb_1 := c41) hx134
          have hle := Nat.le_trans hn0 H.size
          refine st_call (cx_lend (Loan.lend (Loan.lend Loan.nil)) hc135 (ent_f hc135.fn rfl) (show Hp S0 σ0 _ ([Ch.own n0 n0 (Sl a69 r66 c70) r66, Ch.own n0 n0 (Sl a40 r37 c41) r37] ++ ([] ++ [Ch.own 0 0 (Sl a62 r126.2 c63) r126.2, Ch.ro 0 (Sl aaPlanes_0 aPlanes_0 caPlanes_0) aPlanes_0, Ch.ro 0 (Sl aaList_1 aList_1 caList_1) aList_1, Ch.ro 0 (Sl aaAt_2 aAt_2 caAt_2) aAt_2])) from (H.sel' [1, 2, 0, 3, 4, 5] rfl rfl)) (by rintro _ _ _ ⟨rfl, rfl⟩; exact trivial)) (wanted_yes rfl (by exact (congrArg some hb132))) ?_
          rintro _ σ136 ⟨_, ⟨rfl, rfl⟩, H, -, -⟩
          replace H : Hp S0 σ0 σ136 [Ch.own n0 n0 (Sl a69 r66 c70) r66, Ch.own n0 n0 (Sl a40 r37 c41) r37, Ch.own 0 0 (Sl a62 r126.2 c63) r126.2, Ch.ro 0 (Sl aaPlanes_0 aPlanes_0 caPlanes_0) aPlanes_0, Ch.ro 0 (Sl aaList_1 aList_1 caList_1) aList_1, Ch.ro 0 (Sl aaAt_2 aAt_2 caAt_2) aAt_2] := H
          clear hle
          replace H : Hp S0 σ0 σ136 [Ch.own n0 n0 (Sl a69 r66 c70) r66, Ch.own n0 n0 (Sl a40 r37 c41) r37, Ch.own 0 0 (Sl a62 r126.2 c63) r126.2, Ch.ro 0 (Sl aaPlanes_0 aPlanes_0 caPlanes_0) aPlanes_0, Ch.ro 0 (Sl aaList_1 aList_1 caList_1) aList_1, Ch.ro 0 (Sl aaAt_2 aAt_2 caAt_2) aAt_2] := H
          refine st_g (v := (B (!r133))) (congrArg some hb132) (rv_not rfl) ?_
          refine st (v := (B (!r133))) (rv_pick_f (congrArg B hb132) rfl) ?_
          refine w_end ?_
          obtain rfl := Option.some.inj h
          exact ⟨rfl, _, σ136, fr_join ⟨rfl, rfl, rfl, rfl, rfl, rfl, rfl, trivial⟩, rfl, H.sel' [3, 4, 5, 1, 0] rfl rfl⟩
        ·clear hj
         have h := h'
         clear h' H
         rintro e a w ⟨rfl, ρ, σ137, rfl, rfl, H⟩
         refine q_then ?_
         refine cd_cond o131 rfl (fun hb138 => ?_) (fun hb138 => ?_)
         ·replace h := bif_t hb138 h
          refine c_seq ?_
          refine rg ?_
          refine st (v := (B false)) (rv_assign rfl) ?_
          refine w_end ?_
          refine q_then ?_
          refine c_ret ?_
          refine q_then_r ?_
          obtain rfl := Option.some.inj h
          exact fin_ret (v := (B false)) (results_ok Try.results5 (res_tmp (v := (B false)) rfl res_nil) rfl) ⟨rfl, rfl⟩ (H.sel' [] rfl rfl)
         ·replace h := bif_f hb138 h
          refine c_skip ?_
          refine q_then ?_
          refine c_seq ?_
          refine rg ?_
          refine st (v := (I 1)) (rv_assign rfl) ?_
          refine w_end ?_
          refine q_then ?_
          refine c_seq ?_
          refine rg ?_
          refine st (v := (Sl a69 r66 c70)) (rv_move rfl) ?_
          refine st (v := (I 1)) (rv_move rfl) ?_
          replace H := H.ownLow 4 0 0 rfl (Nat.zero_le _) (Nat.zero_le _)
          obtain ⟨r139, hx140, h'⟩ := bind_some h
          clear h
          have h := h'; clear h'
          have hc141 := c_laws_markIntS (aa_0 := a69) (ca_0 := c70) hx140
          refine st_call (cx_call hc141 (ent_f hc141.fn rfl) hn0 (show Hp S0 σ0 _ ([Ch.own 0 0 (Sl a69 r66 c70) r66] ++ [Ch.ro 0 (Sl aaPlanes_0 aPlanes_0 caPlanes_0) aPlanes_0, Ch.ro 0 (Sl aaList_1 aList_1 caList_1) aList_1, Ch.ro 0 (Sl aaAt_2 aAt_2 caAt_2) aAt_2, Ch.own n0 n0 (Sl a40 r37 c41) r37]) from (H.sel' [0, 1, 2, 3, 4] rfl rfl))) wn ?_
          rintro _ σ143 ⟨_, ⟨rfl, rfl, hn142⟩, H, -⟩
          replace H : Hp S0 σ0 σ143 [Ch.own 0 0 (Sl a69 r139.2 c70) r139.2, Ch.ro 0 (Sl aaPlanes_0 aPlanes_0 caPlanes_0) aPlanes_0, Ch.ro 0 (Sl aaList_1 aList_1 caList_1) aList_1, Ch.ro 0 (Sl aaAt_2 aAt_2 caAt_2) aAt_2, Ch.own n0 n0 (Sl a40 r37 c41) r37] := H
          have hsl : (Sl a69 r66 c70) = (Sl a69 r139.2 c70) := sl_len hn142.symm
          try rw [hsl]
          try rw [hsl] at H
          clear hsl
          refine st (v := (I r139.1)) (rv_assign rfl) ?_
          refine w_end ?_
          refine q_then ?_
          refine c_seq ?_
          refine rg ?_
          refine st (v := (I 1)) (rv_assign rfl) ?_
          refine w_end ?_
          refine q_then ?_
          refine c_seq ?_
          refine rg ?_
          refine st (v := (Sl a69 r139.2 c70)) (rv_move rfl) ?_
          refine st (v := (I 1)) (rv_move rfl) ?_
          obtain ⟨r144, hx145, h'⟩ := bind_some h
          clear h
          have h := h'; clear h'
          have hc146 := c_laws_heldIntS (aa_0 := a69) (ca_0 := c70) hx145
          have hle := Nat.le_trans hn0 H.size
          refine st_call (cx_lend (Loan.lend Loan.nil) hc146 (ent_f hc146.fn rfl) (show Hp S0 σ0 _ ([Ch.own 0 0 (Sl a69 r139.2 c70) r139.2] ++ ([] ++ [Ch.ro 0 (Sl aaPlanes_0 aPlanes_0 caPlanes_0) aPlanes_0, Ch.ro 0 (Sl aaList_1 aList_1 caList_1) aList_1, Ch.ro 0 (Sl aaAt_2 aAt_2 caAt_2) aAt_2, Ch.own n0 n0 (Sl a40 r37 c41) r37])) from (H.sel' [0, 1, 2, 3, 4] rfl rfl)) (by rintro _ _ _ ⟨rfl, rfl⟩; exact trivial)) wn ?_
          rintro _ σ147 ⟨_, ⟨rfl, rfl⟩, H, -, -⟩
          replace H : Hp S0 σ0 σ147 [Ch.own 0 0 (Sl a69 r139.2 c70) r139.2, Ch.ro 0 (Sl aaPlanes_0 aPlanes_0 caPlanes_0) aPlanes_0, Ch.ro 0 (Sl aaList_1 aList_1 caList_1) aList_1, Ch.ro 0 (Sl aaAt_2 aAt_2 caAt_2) aAt_2, Ch.own n0 n0 (Sl a40 r37 c41) r37] := H
          clear hle
          replace H : Hp S0 σ0 σ147 [Ch.own 0 0 (Sl a69 r139.2 c70) r139.2, Ch.ro 0 (Sl aaPlanes_0 aPlanes_0 caPlanes_0) aPlanes_0, Ch.ro 0 (Sl aaList_1 aList_1 caList_1) aList_1, Ch.ro 0 (Sl aaAt_2 aAt_2 caAt_2) aAt_2, Ch.own n0 n0 (Sl a40 r37 c41) r37] := H
          refine st (v := (I r144)) (rv_assign rfl) ?_
          refine w_end ?_
          refine q_then ?_
          refine c_seq ?_
          refine c_seq ?_
          refine rg ?_
          refine st (v := (I r144)) (rv_move rfl) ?_
          refine st (v := (B (decide (r144 < 0)))) (rv_lss (a := r144) (b := 0) rfl rfl) ?_
          refine w_end ?_
          refine q_then ?_
          refine cd_cond (decide (r144 < 0)) rfl (fun hb148 => ?_) (fun hb148 => ?_)
          ·replace h := bif_t hb148 h
           refine c_seq ?_
           refine rg ?_
           refine st (v := (B false)) (rv_assign rfl) ?_
           refine w_end ?_
           refine q_then ?_
           refine c_ret ?_
           refine q_then_r ?_
           obtain rfl := Option.some.inj h
           exact fin_ret (v := (B false)) (results_ok Try.results5 (res_tmp (v := (B false)) rfl res_nil) rfl) ⟨rfl, rfl⟩ (H.sel' [] rfl rfl)
          ·replace h := bif_f hb148 h
           refine c_skip ?_
           refine q_then ?_
           refine c_seq ?_
           refine c_seq ?_
           refine rg ?_
           refine st (v := (I r144)) (rv_move rfl) ?_
           refine st (v := (I r139.1)) (rv_move rfl) ?_
           refine st (v := (B (r144 != r139.1))) (rv_neq (a := r144) (b := r139.1) rfl rfl) ?_
           refine w_end ?_
           refine q_then ?_
           refine cd_cond (r144 != r139.1) rfl (fun hb149 => ?_) (fun hb149 => ?_)
           ·replace h := bif_t hb149 h
            refine c_seq ?_
            refine rg ?_
            refine st (v := (B false)) (rv_assign rfl) ?_
            refine w_end ?_
            refine q_then ?_
            refine c_ret ?_
            refine q_then_r ?_
            obtain rfl := Option.some.inj h
            exact fin_ret (v := (B false)) (results_ok Try.results5 (res_tmp (v := (B false)) rfl res_nil) rfl) ⟨rfl, rfl⟩ (H.sel' [] rfl rfl)
           ·replace h := bif_f hb149 h
            refine c_skip ?_
            refine q_then ?_
            refine c_seq ?_
            refine rg ?_
            refine st (v := (Sl aaPlanes_0 aPlanes_0 caPlanes_0)) (rv_move rfl) ?_
            obtain ⟨r150, hx151, h'⟩ := bind_some h
            clear h
            have h := h'; clear h'
            have hc152 := c_laws_toIntSS (aa_0 := aaPlanes_0) (ca_0 := caPlanes_0) hx151
            refine st_call (cx_call hc152 (ent_f hc152.fn rfl) hn0 (show Hp S0 σ0 _ ([Ch.ro 0 (Sl aaPlanes_0 aPlanes_0 caPlanes_0) aPlanes_0] ++ [Ch.own 0 0 (Sl a69 r139.2 c70) r139.2, Ch.ro 0 (Sl aaPlanes_0 aPlanes_0 caPlanes_0) aPlanes_0, Ch.ro 0 (Sl aaList_1 aList_1 caList_1) aList_1, Ch.ro 0 (Sl aaAt_2 aAt_2 caAt_2) aAt_2, Ch.own n0 n0 (Sl a40 r37 c41) r37]) from (H.sel' [1, 0, 1, 2, 3, 4] rfl rfl))) wn ?_
            rintro _ σ157 ⟨_, ⟨a153, c154, K155, rfl, rfl, hK156⟩, H, -⟩
            replace H : Hp S0 σ0 σ157 [Ch.big K155, Ch.own 0 0 (Sl a69 r139.2 c70) r139.2, Ch.ro 0 (Sl aaPlanes_0 aPlanes_0 caPlanes_0) aPlanes_0, Ch.ro 0 (Sl aaList_1 aList_1 caList_1) aList_1, Ch.ro 0 (Sl aaAt_2 aAt_2 caAt_2) aAt_2, Ch.own n0 n0 (Sl a40 r37 c41) r37] := H
            refine st (v := (Sl aaList_1 aList_1 caList_1)) (rv_move rfl) ?_
            obtain ⟨r158, hx159, h'⟩ := bind_some h
            clear h
            have h := h'; clear h'
            have hc160 := c_laws_toItemS (aa_0 := aaList_1) (ca_0 := caList_1) hx159
            refine st_call (cx_call hc160 (ent_f hc160.fn rfl) hn0 (show Hp S0 σ0 _ ([Ch.ro 0 (Sl aaList_1 aList_1 caList_1) aList_1] ++ [Ch.big K155, Ch.own 0 0 (Sl a69 r139.2 c70) r139.2, Ch.ro 0 (Sl aaPlanes_0 aPlanes_0 caPlanes_0) aPlanes_0, Ch.ro 0 (Sl aaList_1 aList_1 caList_1) aList_1, Ch.ro 0 (Sl aaAt_2 aAt_2 caAt_2) aAt_2, Ch.own n0 n0 (Sl a40 r37 c41) r37]) from (H.sel' [3, 0, 1, 2, 3, 4, 5] rfl rfl))) wn ?_
            rintro _ σ165 ⟨_, ⟨a161, c162, K163, rfl, rfl, hK164⟩, H, -⟩
            replace H : Hp S0 σ0 σ165 [Ch.big K163, Ch.big K155, Ch.own 0 0 (Sl a69 r139.2 c70) r139.2, Ch.ro 0 (Sl aaPlanes_0 aPlanes_0 caPlanes_0) aPlanes_0, Ch.ro 0 (Sl aaList_1 aList_1 caList_1) aList_1, Ch.ro 0 (Sl aaAt_2 aAt_2 caAt_2) aAt_2, Ch.own n0 n0 (Sl a40 r37 c41) r37] := H
            refine st (v := (Sl aaAt_2 aAt_2 caAt_2)) (rv_move rfl) ?_
            obtain ⟨r166, hx167, h'⟩ := bind_some h
            clear h
            have h := h'; clear h'
            have hc168 := c_laws_toIntS (aa_0 := aaAt_2) (ca_0 := caAt_2) hx167
            refine st_call (cx_call hc168 (ent_f hc168.fn rfl) hn0 (show Hp S0 σ0 _ ([Ch.ro 0 (Sl aaAt_2 aAt_2 caAt_2) aAt_2] ++ [Ch.big K163, Ch.big K155, Ch.own 0 0 (Sl a69 r139.2 c70) r139.2, Ch.ro 0 (Sl aaPlanes_0 aPlanes_0 caPlanes_0) aPlanes_0, Ch.ro 0 (Sl aaList_1 aList_1 caList_1) aList_1, Ch.ro 0 (Sl aaAt_2 aAt_2 caAt_2) aAt_2, Ch.own n0 n0 (Sl a40 r37 c41) r37]) from (H.sel' [5, 0, 1, 2, 3, 4, 5, 6] rfl rfl))) wn ?_
            rintro _ σ172 ⟨_, ⟨a169, c170, rfl, rfl, ht171⟩, H, -⟩
            replace H : Hp S0 σ0 σ172 [Ch.own n0 n0 (Sl a169 r166 c170) r166, Ch.big K163, Ch.big K155, Ch.own 0 0 (Sl a69 r139.2 c70) r139.2, Ch.ro 0 (Sl aaPlanes_0 aPlanes_0 caPlanes_0) aPlanes_0, Ch.ro 0 (Sl aaList_1 aList_1 caList_1) aList_1, Ch.ro 0 (Sl aaAt_2 aAt_2 caAt_2) aAt_2, Ch.own n0 n0 (Sl a40 r37 c41) r37] := H
            replace H : Hp S0 σ0 σ172 [Ch.own n0 n0 (Sl a169 r166 c170) r166, Ch.big K163, Ch.big K155, Ch.own 0 0 (Sl a69 r139.2 c70) r139.2, Ch.own n0 n0 (Sl a40 r37 c41) r37] := H.sel' [0, 1, 2, 3, 7] rfl rfl
            refine st (v := (I aBits_3)) (rv_move rfl) ?_
            obtain ⟨σ173, hw174, H, -⟩ := H.pub 0 rfl (Nat.le_refl _)
            rw [← hw174]; clear hw174
            replace H := H.roLow 0 0 rfl (Nat.zero_le _)
            obtain ⟨r175, hx176, h'⟩ := bind_some h
            clear h
            have h := h'; clear h'
            have hc177 := c_impl_BucketOf (aplanes_0 := a153) (cplanes_0 := c154) (alist_1 := a161) (clist_1 := c162) (aat_2 := a169) (cat_2 := c170) hx176
            have hle := Nat.le_trans hn0 H.size
            refine st_call (cx_lend (Loan.lendB hK156.lends (Loan.lendB hK164.lends (Loan.same Loan.nil))) hc177 (ent_f hc177.fn rfl) (show Hp S0 σ0 _ ([Ch.big K155, Ch.big K163] ++ ([Ch.ro 0 (Sl a169 r166 c170) r166] ++ [Ch.ro 0 (Sl a169 r166 c170) r166, Ch.ro n0 (Sl a169 r166 c170) r166, Ch.own 0 0 (Sl a69 r139.2 c70) r139.2, Ch.own n0 n0 (Sl a40 r37 c41) r37])) from (H.sel' [3, 2, 0, 0, 1, 4, 5] rfl rfl)) (by rintro _ _ _ ⟨_, _, rfl, rfl, _⟩; exact ⟨Ab.ownSc, trivial⟩)) wn ?_
            rintro _ σ181 ⟨_, ⟨a178, c179, rfl, rfl, ht180⟩, H, -, -⟩
            replace H : Hp S0 σ0 σ181 [Ch.own σ173.size σ173.size (Sl a178 r175 c179) r175, Ch.big K155, Ch.big K163, Ch.ro 0 (Sl a169 r166 c170) r166, Ch.ro n0 (Sl a169 r166 c170) r166, Ch.own 0 0 (Sl a69 r139.2 c70) r139.2, Ch.own n0 n0 (Sl a40 r37 c41) r37] := H
            replace H := H.ownLow 0 n0 n0 rfl hle hle
            clear hle
            replace H : Hp S0 σ0 σ181 [Ch.own n0 n0 (Sl a178 r175 c179) r175, Ch.big K155, Ch.big K163, Ch.ro 0 (Sl a169 r166 c170) r166, Ch.ro n0 (Sl a169 r166 c170) r166, Ch.own 0 0 (Sl a69 r139.2 c70) r139.2, Ch.own n0 n0 (Sl a40 r37 c41) r37] := H
            refine st (v := (Sl a178 r175 c179)) (rv_assign rfl) ?_
            refine w_end ?_
            refine q_then ?_
            refine c_seq ?_
            refine c_seq ?_
            refine rg ?_
            refine st (v := (Sl a178 r175 c179)) (rv_move rfl) ?_
            refine st (v := (Sl a40 r37 c41)) (rv_move rfl) ?_
            obtain ⟨σ182, hw183, H, -⟩ := H.pub 0 rfl (Nat.le_refl _)
            rw [← hw183]; clear hw183
            obtain ⟨σ184, hw185, H, -⟩ := H.pub 6 rfl (Nat.le_refl _)
            rw [← hw185]; clear hw185
            replace H := H.roLow 1 0 rfl (Nat.zero_le _)
            replace H := H.roLow 1 0 rfl (Nat.zero_le _)
            obtain ⟨r186, hx187, h'⟩ := bind_some h
            clear h
            have h := h'; clear h'
            have hc188 := c_laws_eqIntS (aa_0 := a178) (ca_0 := c179) (ab_1 := a40) (cb_1 := c41) hx187
            refine st_call (cx_call hc188 (ent_f hc188.fn rfl) hn0 (show Hp S0 σ0 _ ([Ch.ro 0 (Sl a178 r175 c179) r175, Ch.ro 0 (Sl a40 r37 c41) r37] ++ [Ch.ro 0 (Sl a40 r37 c41) r37, Ch.ro 0 (Sl a178 r175 c179) r175, Ch.ro n0 (Sl a40 r37 c41) r37, Ch.ro n0 (Sl a178 r175 c179) r175, Ch.big K155, Ch.big K163, Ch.ro 0 (Sl a169 r166 c170) r166, Ch.ro n0 (Sl a169 r166 c170) r166, Ch.own 0 0 (Sl a69 r139.2 c70) r139.2]) from (H.sel' [1, 0, 0, 1, 2, 3, 4, 5, 6, 7, 8] rfl rfl))) wn ?_
            rintro _ σ189 ⟨_, ⟨rfl, rfl⟩, H, -⟩
            replace H : Hp S0 σ0 σ189 [Ch.ro 0 (Sl a40 r37 c41) r37, Ch.ro 0 (Sl a178 r175 c179) r175, Ch.ro n0 (Sl a40 r37 c41) r37, Ch.ro n0 (Sl a178 r175 c179) r175, Ch.big K155, Ch.big K163, Ch.ro 0 (Sl a169 r166 c170) r166, Ch.ro n0 (Sl a169 r166 c170) r166, Ch.own 0 0 (Sl a69 r139.2 c70) r139.2] := H
            replace H : Hp S0 σ0 σ189 [Ch.own 0 0 (Sl a69 r139.2 c70) r139.2] := H.sel' [8] rfl rfl
            refine st (v := (B (!r186))) (rv_not rfl) ?_
            refine w_end ?_
            refine q_then ?_
            refine cd_cond (!r186) rfl (fun hb190 => ?_) (fun hb190 => ?_)
            ·replace h := bif_t hb190 h
             refine c_seq ?_
             refine rg ?_
             refine st (v := (B false)) (rv_assign rfl) ?_
             refine w_end ?_
             refine q_then ?_
             refine c_ret ?_
             refine q_then_r ?_
             obtain rfl := Option.some.inj h
             exact fin_ret (v := (B false)) (results_ok Try.results5 (res_tmp (v := (B false)) rfl res_nil) rfl) ⟨rfl, rfl⟩ (H.sel' [] rfl rfl)
            ·replace h := bif_f hb190 h
             refine c_skip ?_
             refine q_then ?_
             refine c_seq ?_
             refine rg ?_
             refine st (v := (I 1)) (rv_assign rfl) ?_
             refine w_end ?_
             refine q_then ?_
             refine c_seq ?_
             refine rg ?_
             refine st (v := (Sl a69 r139.2 c70)) (rv_move rfl) ?_
             refine st (v := (I 1)) (rv_move rfl) ?_
             obtain ⟨σ191, hw192, H, -⟩ := H.pub 0 rfl (Nat.le_refl _)
             rw [← hw192]; clear hw192
             obtain ⟨r193, hx194, h'⟩ := bind_some h
             clear h
             have h := h'; clear h'
             have hc195 := c_laws_heldIntS (aa_0 := a69) (ca_0 := c70) hx194
             refine st_call (cx_call hc195 (ent_f hc195.fn rfl) hn0 (show Hp S0 σ0 _ ([Ch.ro 0 (Sl a69 r139.2 c70) r139.2] ++ [Ch.ro 0 (Sl a69 r139.2 c70) r139.2]) from (H.sel' [0, 0] rfl rfl))) wn ?_
             rintro _ σ196 ⟨_, ⟨rfl, rfl⟩, H, -⟩
             replace H : Hp S0 σ0 σ196 [Ch.ro 0 (Sl a69 r139.2 c70) r139.2] := H
             refine st (v := (I r193)) (rv_assign rfl) ?_
             refine w_end ?_
             refine q_then ?_
             refine c_seq ?_
             refine c_seq ?_
             refine rg ?_
             refine st (v := (I r193)) (rv_move rfl) ?_
             refine st (v := (B (decide (r193 < 0)))) (rv_lss (a := r193) (b := 0) rfl rfl) ?_
             refine w_end ?_
             refine q_then ?_
             refine cd_cond (decide (r193 < 0)) rfl (fun hb197 => ?_) (fun hb197 => ?_)
             ·replace h := bif_t hb197 h
              refine c_seq ?_
              refine rg ?_
              refine st (v := (B false)) (rv_assign rfl) ?_
              refine w_end ?_
              refine q_then ?_
              refine c_ret ?_
              refine q_then_r ?_
              obtain rfl := Option.some.inj h
              exact fin_ret (v := (B false)) (results_ok Try.results5 (res_tmp (v := (B false)) rfl res_nil) rfl) ⟨rfl, rfl⟩ (H.sel' [] rfl rfl)
             ·replace h := bif_f hb197 h
              refine c_skip ?_
              refine q_then ?_
              refine c_seq ?_
              refine c_seq ?_
              refine rg ?_
              refine st (v := (I r193)) (rv_move rfl) ?_
              refine st (v := (I r139.1)) (rv_move rfl) ?_
              refine st (v := (B (r193 != r139.1))) (rv_neq (a := r193) (b := r139.1) rfl rfl) ?_
              refine w_end ?_
              refine q_then ?_
              refine cd_cond (r193 != r139.1) rfl (fun hb198 => ?_) (fun hb198 => ?_)
              ·replace h := bif_t hb198 h
               refine c_seq ?_
               refine rg ?_
               refine st (v := (B false)) (rv_assign rfl) ?_
               refine w_end ?_
               refine q_then ?_
               refine c_ret ?_
               refine q_then_r ?_
               obtain rfl := Option.some.inj h
               exact fin_ret (v := (B false)) (results_ok Try.results5 (res_tmp (v := (B false)) rfl res_nil) rfl) ⟨rfl, rfl⟩ (H.sel' [] rfl rfl)
              ·replace h := bif_f hb198 h
               refine c_skip ?_
               refine q_then ?_
               refine c_seq ?_
               refine rg ?_
               refine st (v := (B true)) (rv_assign rfl) ?_
               refine w_end ?_
               refine q_then ?_
               refine c_ret ?_
               obtain rfl := Option.some.inj h
               exact fin_ret (v := (B true)) (results_ok Try.results5 (res_tmp (v := (B true)) rfl res_nil) rfl) ⟨rfl, rfl⟩ (H.sel' [] rfl rfl)

end Go.Vs
