/- The functions compute what their models say. -/
import Derived.Test.YtpccmkphddipdabKExactLogBetweenC2
set_option linter.unusedVariables false
set_option linter.unusedSimpArgs false
set_option maxRecDepth 20000
namespace Go.Vs
open Go Go.Proofs
attribute [local irreducible] Code.wp Code.wpIn wpList wpListIn wpQuiet Calls CallsIn

theorem c_laws_eqItemS {a_0 : List (Int × (List Int) × Int)} {b_1 : List (Int × (List Int) × Int)} {aa_0 : Option Addr} {ca_0 : Nat} {ab_1 : Option Addr} {cb_1 : Nat} {r : Bool} (h : M.laws_eqItemS a_0 b_1 = some r) :
    Cal2 Try.prog 40 [(Sl aa_0 a_0 ca_0), (Sl ab_1 b_1 cb_1)] [Ch.ro 0 (Sl aa_0 a_0 ca_0) a_0, Ch.ro 0 (Sl ab_1 b_1 cb_1) b_1] (fun n0 v L => v = (B r) ∧ L = []) := by
 refine cal2 (n := 27) Try.func40 rfl rfl rfl rfl ?_
 intro S0 σ0 n0 hn0 H
 unfold M.laws_eqItemS at h
 refine c_seq ?_
 refine rg ?_
 refine st (v := (B false)) (rv_assign rfl) ?_
 refine w_end ?_
 refine q_then ?_
 refine c_seq ?_
 refine c_seq ?_
 refine rg ?_
 refine st (v := (Sl aa_0 a_0 ca_0)) (rv_move rfl) ?_
 refine st (v := (I (a_0.length : Int))) (rv_len Try.underlying23 rfl) ?_
 refine st (v := (Sl ab_1 b_1 cb_1)) (rv_move rfl) ?_
 refine st (v := (I (b_1.length : Int))) (rv_len Try.underlying23 rfl) ?_
 refine st (v := (B ((a_0.length : Int) != (b_1.length : Int)))) (rv_neq (a := (a_0.length : Int)) (b := (b_1.length : Int)) rfl rfl) ?_
 refine w_end ?_
 refine q_then ?_
 refine cd_cond ((a_0.length : Int) != (b_1.length : Int)) rfl (fun hb1 => ?_) (fun hb1 => ?_)
 ·replace h := bif_t hb1 h
  refine c_seq ?_
  refine rg ?_
  refine st (v := (B false)) (rv_assign rfl) ?_
  refine w_end ?_
  refine q_then ?_
  refine c_ret ?_
  refine q_then_r ?_
  obtain rfl := Option.some.inj h
  exact fin_ret (v := (B false)) (results_ok Try.results40 (res_tmp (v := (B false)) rfl res_nil) rfl) ⟨rfl, rfl⟩ (H.sel' [] rfl rfl)
 ·replace h := bif_f hb1 h
  refine c_skip ?_
  refine q_then ?_
  refine c_seq ?_
  refine c_seq ?_
  refine rg ?_
  refine st (v := (I 0)) (rv_assign rfl) ?_
  refine w_end ?_
  refine q_then ?_
  obtain ⟨o2, hj, h'⟩ := bind_some h
  clear h
  refine c_cut (fun e a w => (∃ t, o2 = (.inl t) ∧ e = .normal ∧ ∃ (ρ : Nat → Value) (σ : St), a = fr 27 (updL ρ []) ∧ w = σ.w ∧ Hp S0 σ0 σ []) ∨ (∃ t, o2 = (.inr t) ∧ e = .ret ∧ ∃ (ρ : Nat → Value) (σ : St), a = fr 27 (updL ρ [(4, (B t))]) ∧ w = σ.w ∧ Hp S0 σ0 σ [])) ?_ ?_
  ·clear h'
   rename _ = some o2 => h
   refine c_blk ?_
   refine wp_loopM _ h (fun s3 a w => ∃ (ρ : Nat → Value) (σ : St), a = fr 27 (updL ρ [(0, (Sl aa_0 a_0 ca_0)), (1, (Sl ab_1 b_1 cb_1)), (5, (I s3))]) ∧ w = σ.w ∧ Hp S0 σ0 σ [Ch.ro 0 (Sl aa_0 a_0 ca_0) a_0, Ch.ro 0 (Sl ab_1 b_1 cb_1) b_1]) ⟨_, σ0, fr_join ⟨rfl, rfl, rfl, trivial⟩, rfl, H.sel' [0, 1] rfl rfl⟩ ?_
   clear h H
   rintro s3 a w o ⟨ρ, σ4, rfl, rfl, H⟩ h hres
   refine c_seq ?_
   refine c_seq ?_
   refine rg ?_
   refine st (v := (I s3)) (rv_move rfl) ?_
   refine st (v := (Sl aa_0 a_0 ca_0)) (rv_move rfl) ?_
   refine st (v := (I (a_0.length : Int))) (rv_len Try.underlying23 rfl) ?_
   refine st (v := (B (decide (s3 < (a_0.length : Int))))) (rv_lss (a := s3) (b := (a_0.length : Int)) rfl rfl) ?_
   refine w_end ?_
   refine q_then ?_
   refine cd_cond (decide (s3 < (a_0.length : Int))) rfl (fun hb5 => ?_) (fun hb5 => ?_)
   ·replace h := bif_t hb5 h
    refine c_skip ?_
    refine q_then ?_
    refine c_seq ?_
    refine c_blk ?_
    refine c_seq ?_
    refine rgP (σ := σ4) 8 (by kernel_rfl) (by kernel_rfl) (by kernel_rfl) ?_
    refine sq (v := (Sl aa_0 a_0 ca_0)) (rv_move rfl) ?_
    refine sq (v := (I s3)) (rv_move rfl) ?_
    obtain ⟨x6, hx7, h'⟩ := bind_some h
    clear h
    have h := h'; clear h'
    obtain ⟨b9, o10, hi8, -⟩ := (H.ro 0 rfl).ix hx7
    refine sq (v := (pt b9 o10)) (rv_ix Try.underlying23 ti32 rfl rfl hi8) ?_
    obtain ⟨_, ⟨_, _, rfl, rfl, ⟨_, _, rfl, ⟨_, rfl, hR15⟩, rfl⟩⟩, hl11, hc12⟩ := ((H.ro 0 rfl).at hx7 hi8).cells
    obtain ⟨a13, c14, rfl⟩ := hR15.isSl
    replace H := H.add (d := Ch.ro 0 (Sl a13 x6.2.1 c14) x6.2.1) hR15 (fun _ h => h)
    clear hR15
    refine sq (v := (.agg #[(I x6.1), (Sl a13 x6.2.1 c14), (I x6.2.2)])) (rv_load Try.underlying32 rfl ti32 rfl hl11 hc12) ?_
    refine sq (v := (Sl ab_1 b_1 cb_1)) (rv_move rfl) ?_
    refine sq (v := (I s3)) (rv_move rfl) ?_
    obtain ⟨x16, hx17, h'⟩ := bind_some h
    clear h
    have h := h'; clear h'
    obtain ⟨b19, o20, hi18, -⟩ := (H.ro 2 rfl).ix hx17
    refine sq (v := (pt b19 o20)) (rv_ix Try.underlying23 ti32 rfl rfl hi18) ?_
    obtain ⟨_, ⟨_, _, rfl, rfl, ⟨_, _, rfl, ⟨_, rfl, hR25⟩, rfl⟩⟩, hl21, hc22⟩ := ((H.ro 2 rfl).at hx17 hi18).cells
    obtain ⟨a23, c24, rfl⟩ := hR25.isSl
    replace H := H.add (d := Ch.ro 0 (Sl a23 x16.2.1 c24) x16.2.1) hR25 (fun _ h => h)
    clear hR25
    refine sq (v := (.agg #[(I x16.1), (Sl a23 x16.2.1 c24), (I x16.2.2)])) (rv_load Try.underlying32 rfl ti32 rfl hl21 hc22) ?_
    refine sq_end ?_
    intro σ26 hm27
    replace H := H.grow (hm27.mono fun _ h => h); clear hm27
    obtain ⟨r28, hx29, h'⟩ := bind_some h
    clear h
    have h := h'; clear h'
    have hc30 := c_laws_eqItem (aa_0_1 := a13) (ca_0_1 := c14) (ab_1_1 := a23) (cb_1_1 := c24) hx29
    refine st_call (cx_call hc30 (ent_f hc30.fn rfl) hn0 (show Hp S0 σ0 _ ([Ch.ro 0 (Sl a13 x6.2.1 c14) x6.2.1, Ch.ro 0 (Sl a23 x16.2.1 c24) x16.2.1] ++ [Ch.ro 0 (Sl a23 x16.2.1 c24) x16.2.1, Ch.ro 0 (Sl a13 x6.2.1 c14) x6.2.1, Ch.ro 0 (Sl aa_0 a_0 ca_0) a_0, Ch.ro 0 (Sl ab_1 b_1 cb_1) b_1]) from (H.sel' [1, 0, 0, 1, 2, 3] rfl rfl))) wn ?_
    rintro _ σ31 ⟨_, ⟨rfl, rfl⟩, H, -⟩
    replace H : Hp S0 σ0 σ31 [Ch.ro 0 (Sl a23 x16.2.1 c24) x16.2.1, Ch.ro 0 (Sl a13 x6.2.1 c14) x6.2.1, Ch.ro 0 (Sl aa_0 a_0 ca_0) a_0, Ch.ro 0 (Sl ab_1 b_1 cb_1) b_1] := H
    refine st (v := (B (!r28))) (rv_not rfl) ?_
    refine w_end ?_
    refine q_then ?_
    refine cd_cond (!r28) rfl (fun hb32 => ?_) (fun hb32 => ?_)
    ·replace h := bif_t hb32 h
     refine c_seq ?_
     refine rg ?_
     refine st (v := (B false)) (rv_assign rfl) ?_
     refine w_end ?_
     refine q_then ?_
     refine c_ret ?_
     refine q_blk_r ?_
     refine q_then_r ?_
     refine q_then_r ?_
     refine q_blk_r ?_
     obtain rfl := Option.some.inj h
     obtain rfl := hres _ rfl
     exact .inr (⟨_, rfl, rfl, _, σ31, fr_join ⟨rfl, trivial⟩, rfl, H.sel' [] rfl rfl⟩)
    ·replace h := bif_f hb32 h
     refine c_skip ?_
     refine q_blk ?_
     refine q_then ?_
     refine rg ?_
     refine st (v := (I s3)) (rv_move rfl) ?_
     refine st (v := (I (w64 (s3 + 1)))) (rv_add (a := s3) (b := 1) rfl rfl) ?_
     refine st (v := (I (w64 (s3 + 1)))) (rv_assign rfl) ?_
     refine w_end ?_
     refine q_then ?_
     obtain rfl := Option.some.inj h
     exact ⟨_, rfl, _, σ31, fr_join ⟨rfl, rfl, rfl, trivial⟩, rfl, H.sel' [2, 3] rfl rfl⟩
   ·replace h := bif_f hb5 h
    refine c_exit ?_
    refine q_then_x ?_
    refine q_then_x ?_
    refine q_blk_hit ?_
    obtain rfl := Option.some.inj h
    obtain rfl := hres _ rfl
    exact .inl ⟨_, rfl, rfl, _, σ4, fr_join trivial, rfl, H.sel' [] rfl rfl⟩
  ·clear hj
   have h := h'
   clear h' H
   rintro e a w (⟨t33, rfl, rfl, ρ, σ34, rfl, rfl, H⟩ | ⟨t35, rfl, rfl, ρ, σ36, rfl, rfl, H⟩)
   ·replace h := selim_l h
    refine q_then ?_
    refine c_seq ?_
    refine rg ?_
    refine st (v := (B true)) (rv_assign rfl) ?_
    refine w_end ?_
    refine q_then ?_
    refine c_ret ?_
    obtain rfl := Option.some.inj h
    exact fin_ret (v := (B true)) (results_ok Try.results40 (res_tmp (v := (B true)) rfl res_nil) rfl) ⟨rfl, rfl⟩ (H.sel' [] rfl rfl)
   ·replace h := selim_r h
    refine q_then_r ?_
    obtain rfl := Option.some.inj h
    exact fin_ret (v := (B t35)) (results_ok Try.results40 (res_tmp (v := (B t35)) rfl res_nil) rfl) ⟨rfl, rfl⟩ (H.sel' [] rfl rfl)

theorem c_laws_markIntS {a_0 : List Int} {k_1 : Int} {aa_0 : Option Addr} {ca_0 : Nat} {r : Int × (List Int)} (h : M.laws_markIntS a_0 k_1 = some r) :
    Cal2 Try.prog 82 [(Sl aa_0 a_0 ca_0), (I k_1)] [Ch.own 0 0 (Sl aa_0 a_0 ca_0) a_0] (fun n0 v L => v = (I r.1) ∧ L = [Ch.own 0 0 (Sl aa_0 r.2 ca_0) r.2] ∧ r.2.length = a_0.length) := by
 refine cal2 (n := 19) Try.func82 rfl rfl rfl rfl ?_
 intro S0 σ0 n0 hn0 H
 unfold M.laws_markIntS at h
 refine c_seq ?_
 refine rg ?_
 refine st (v := (I 0)) (rv_assign rfl) ?_
 refine w_end ?_
 refine q_then ?_
 refine c_seq ?_
 refine c_seq ?_
 refine rg ?_
 refine st (v := (I 0)) (rv_assign rfl) ?_
 refine w_end ?_
 refine q_then ?_
 obtain ⟨o1, hj, h'⟩ := bind_some h
 clear h
 refine c_cut (fun e a w => e = .normal ∧ ∃ (ρ : Nat → Value) (σ : St), a = fr 19 (updL ρ [(0, (Sl aa_0 o1.1 ca_0)), (1, (I o1.2))]) ∧ w = σ.w ∧ Hp S0 σ0 σ [Ch.own 0 0 (Sl aa_0 o1.1 ca_0) o1.1] ∧ o1.1.length = a_0.length) ?_ ?_
 ·clear h'
  rename _ = some o1 => h
  refine c_blk ?_
  refine wp_loopM _ h (fun s2 a w => ∃ (ρ : Nat → Value) (σ : St), a = fr 19 (updL ρ [(0, (Sl aa_0 s2.1 ca_0)), (1, (I s2.2.1)), (5, (I s2.2.2))]) ∧ w = σ.w ∧ Hp S0 σ0 σ [Ch.own 0 0 (Sl aa_0 s2.1 ca_0) s2.1] ∧ s2.1.length = a_0.length) ⟨_, σ0, fr_join ⟨rfl, rfl, rfl, trivial⟩, rfl, H.sel' [0] rfl rfl, rfl⟩ ?_
  clear h H
  rintro s2 a w o ⟨ρ, σ3, rfl, rfl, H, hn4⟩ h hres
  refine c_seq ?_
  refine c_seq ?_
  refine rg ?_
  refine st (v := (I s2.2.2)) (rv_move rfl) ?_
  refine st (v := (Sl aa_0 s2.1 ca_0)) (rv_move rfl) ?_
  refine st (v := (I (s2.1.length : Int))) (rv_len Try.underlying26 rfl) ?_
  refine st (v := (B (decide (s2.2.2 < (s2.1.length : Int))))) (rv_lss (a := s2.2.2) (b := (s2.1.length : Int)) rfl rfl) ?_
  refine w_end ?_
  refine q_then ?_
  refine cd_cond (decide (s2.2.2 < (s2.1.length : Int))) rfl (fun hb5 => ?_) (fun hb5 => ?_)
  ·replace h := bif_t hb5 h
   refine c_skip ?_
   refine q_then ?_
   refine c_seq ?_
   refine c_blk ?_
   refine c_seq ?_
   refine rg ?_
   refine st (v := (Sl aa_0 s2.1 ca_0)) (rv_move rfl) ?_
   refine st (v := (I s2.2.2)) (rv_move rfl) ?_
   refine st (v := (I s2.2.1)) (rv_move rfl) ?_
   obtain ⟨x6, hx7, h'⟩ := bind_some h
   clear h
   have h := h'; clear h'
   obtain ⟨b9, o10, hi8, -⟩ := (H.own 0 rfl).ix hx7
   refine st (v := (pt b9 o10)) (rv_ix Try.underlying26 ti3 rfl rfl hi8) ?_
   refine st_exS (ex_store_own (e' := s2.2.1) (vs := [(I s2.2.1)]) (k := 0) H (i := 0) rfl ti3 hx7 hi8 rfl rfl rfl rfl rfl (Nat.le_of_ble_eq_true rfl) (by simp [plain]) (by rintro _ rfl; exact rfl)) wn ?_
   rintro σ11 ⟨H, -⟩
   have hsl : (Sl aa_0 s2.1 ca_0) = (Sl aa_0 (s2.1.set s2.2.2.toNat s2.2.1) ca_0) := sl_len List.length_set.symm
   rw [hsl]; rw [hsl] at H; clear hsl
   refine w_end ?_
   refine q_then ?_
   refine rg ?_
   refine st (v := (I s2.2.1)) (rv_move rfl) ?_
   refine st (v := (I (w64 (s2.2.1 + 1)))) (rv_add (a := s2.2.1) (b := 1) rfl rfl) ?_
   refine st (v := (I (w64 (s2.2.1 + 1)))) (rv_assign rfl) ?_
   refine w_end ?_
   refine q_blk ?_
   refine q_then ?_
   refine rg ?_
   refine st (v := (I s2.2.2)) (rv_move rfl) ?_
   refine st (v := (I (w64 (s2.2.2 + 1)))) (rv_add (a := s2.2.2) (b := 1) rfl rfl) ?_
   refine st (v := (I (w64 (s2.2.2 + 1)))) (rv_assign rfl) ?_
   refine w_end ?_
   refine q_then ?_
   obtain rfl := Option.some.inj h
   exact ⟨_, rfl, _, σ11, fr_join ⟨rfl, rfl, rfl, trivial⟩, rfl, H.sel' [0] rfl rfl, (List.length_set.trans hn4)⟩
  ·replace h := bif_f hb5 h
   refine c_exit ?_
   refine q_then_x ?_
   refine q_then_x ?_
   refine q_blk_hit ?_
   obtain rfl := Option.some.inj h
   obtain rfl := hres _ rfl
   exact ⟨rfl, _, σ3, fr_join ⟨rfl, rfl, trivial⟩, rfl, H.sel' [0] rfl rfl, hn4⟩
 ·clear hj
  have h := h'
  clear h' H
  rintro e a w ⟨rfl, ρ, σ12, rfl, rfl, H, hn13⟩
  refine q_then ?_
  refine c_seq ?_
  refine rg ?_
  refine st (v := (I o1.2)) (rv_move rfl) ?_
  refine st (v := (I o1.2)) (rv_assign rfl) ?_
  refine w_end ?_
  refine q_then ?_
  refine c_ret ?_
  obtain rfl := Option.some.inj h
  exact fin_ret (v := (I o1.2)) (results_ok Try.results82 (res_tmp (v := (I o1.2)) rfl res_nil) rfl) ⟨rfl, rfl, hn13⟩ (H.sel' [0] rfl rfl)

theorem c_laws_markItemS {a_0 : List (Int × (List Int) × Int)} {k_1 : Int} {aa_0 : Option Addr} {ca_0 : Nat} {lo : Nat} {K : List Ch} (hK : Dp lo (Sl aa_0 a_0 ca_0) a_0 K) {r : Int} (h : M.markItemD a_0 k_1 = some r) :
    Cal2 Try.prog 41 [(Sl aa_0 a_0 ca_0), (I k_1)] [Ch.big K] (fun n0 v L => v = (I r) ∧ L = []) := by
 obtain ⟨hn, h⟩ := markItemD_some h
 obtain ⟨ps, hps, rfl⟩ := hK.ex
 refine cal2 (n := 34) Try.func41 rfl rfl rfl rfl ?_
 intro S0 σ0 n0 hn0 H
 refine c_seq ?_
 refine rg ?_
 refine st (v := (I 0)) (rv_assign rfl) ?_
 refine w_end ?_
 refine q_then ?_
 refine c_seq ?_
 refine c_seq ?_
 refine rg ?_
 refine st (v := (I 0)) (rv_assign rfl) ?_
 refine w_end ?_
 refine q_then ?_
 refine c_cut (fun e a w => e = .normal ∧ ∃ (ρ : Nat → Value) (σ : St), a = fr 34 (updL ρ [(1, (I r))]) ∧ w = σ.w ∧ Hp S0 σ0 σ []) ?_ ?_
 ·refine c_blk ?_
  have hlen : ps.length = a_0.length := by rw [hps]; simp
  refine wp_loop_ghost (fun m a w => ∃ (i : Nat) (ρ : Nat → Value) (σ : St) (ys : List (Int × Value × Int)) (qs : List ((Int × (List Int) × Int) × Value)) (k : Int), i + m = a_0.length ∧ qs.length = m ∧ ys.drop i = qs.map dsh ∧ M.dmarkItemS (qs.map (·.1)) k = some r ∧ a = fr 34 (updL ρ [(0, (Sl aa_0 a_0 ca_0)), (1, (I k)), (5, (I (i : Int)))]) ∧ w = σ.w ∧ Hp S0 σ0 σ [Ch.own lo lo (Sl aa_0 a_0 ca_0) ys, Ch.big (qs.map (dow lo))]) a_0.length ⟨0, _, σ0, _, ps, k_1, by omega, hlen, rfl, hps ▸ h, fr_join ⟨rfl, rfl, rfl, trivial⟩, rfl, H.unbig⟩ ?_
  clear H
  rintro m _ _ ⟨i, ρ, σ3, ys, qs, k, him, hqs, hys, hk, rfl, rfl, H⟩
  refine c_seq ?_
  refine c_seq ?_
  refine rg ?_
  refine st (v := (I (i : Int))) (rv_move rfl) ?_
  refine st (v := (Sl aa_0 a_0 ca_0)) (rv_move rfl) ?_
  refine st (v := (I (a_0.length : Int))) (rv_len Try.underlying23 rfl) ?_
  refine st (v := (B (decide ((i : Int) < (a_0.length : Int))))) (rv_lss (a := (i : Int)) (b := (a_0.length : Int)) rfl rfl) ?_
  refine w_end ?_
  refine q_then ?_
  refine cd_cond (decide ((i : Int) < (a_0.length : Int))) rfl (fun hb => ?_) (fun hb => ?_)
  ·have hlt : i < a_0.length := by have := of_decide_eq_true hb; omega
   obtain ⟨m, rfl⟩ : ∃ m', m = m' + 1 := ⟨m - 1, by omega⟩
   obtain ⟨p, qs, rfl⟩ : ∃ p qs', qs = p :: qs' := by cases qs with
    | nil => cases hqs
    | cons p qs => exact ⟨p, qs, rfl⟩
   obtain ⟨q, hq, hk'⟩ := bind_some (show (M.laws_markIntS p.1.2.1 (w64 (k + 1))).bind (fun q => M.dmarkItemS (qs.map (·.1)) (w64 (q.1 + 1))) = some r from hk)
   replace hys : ys.drop i = dsh p :: qs.map dsh := hys
   refine c_skip ?_
   refine q_then ?_
   refine c_seq ?_
   refine c_blk ?_
   refine c_seq ?_
   refine rg ?_
   refine st (v := (Sl aa_0 a_0 ca_0)) (rv_move rfl) ?_
   refine st (v := (I (i : Int))) (rv_move rfl) ?_
   refine st (v := (I k)) (rv_move rfl) ?_
   have hx7 := gidx_drop hys
   obtain ⟨b9, o10, hi8, -⟩ := (H.own 0 rfl).ix hx7
   refine st (v := (pt b9 o10)) (rv_ix Try.underlying23 ti32 rfl rfl hi8) ?_
   refine st (v := (pt b9 (o10 + 0))) (rv_fieldAddr (off := 0) (ft := 3) Try.underlying32 rfl ti3 rfl rfl) ?_
   refine st_exS (ex_store_own (e' := ((k, p.2, p.1.2.2) : Int × Value × Int)) (vs := [(I k)]) (k := 0) H (i := 0) rfl ti3 hx7 hi8 rfl rfl rfl rfl rfl (Nat.le_of_ble_eq_true rfl) (by simp [plain]) (by rintro _ ⟨_, _, rfl, rfl, ⟨_, _, rfl, ⟨rfl, hpl⟩, rfl⟩⟩; exact ⟨[(I k)], [p.2, (I p.1.2.2)], rfl, rfl, ⟨[p.2], [(I p.1.2.2)], rfl, ⟨rfl, hpl⟩, rfl⟩⟩)) (wanted_none _ rfl _) ?_
   rintro σ11 ⟨H, -⟩
   refine w_end ?_
   refine q_then ?_
   refine c_seq ?_
   refine rg ?_
   refine st (v := (I k)) (rv_move rfl) ?_
   refine st (v := (I (w64 (k + 1)))) (rv_add (a := k) (b := 1) rfl rfl) ?_
   refine st (v := (I (w64 (k + 1)))) (rv_assign rfl) ?_
   refine w_end ?_
   refine q_then ?_
   refine c_seq ?_
   refine rg ?_
   replace hys := drop_set (e' := ((k, p.2, p.1.2.2) : Int × Value × Int)) hys
   rw [Int.toNat_natCast] at H
   generalize ys.set i ((k, p.2, p.1.2.2) : Int × Value × Int) = ys at H hys
   have hx7 := gidx_drop hys
   refine st (v := (Sl aa_0 a_0 ca_0)) (rv_move rfl) ?_
   refine st (v := (I (i : Int))) (rv_move rfl) ?_
   obtain ⟨b9, o10, hi8, -⟩ := (H.own 0 rfl).ix hx7
   refine st (v := (pt b9 o10)) (rv_ix Try.underlying23 ti32 rfl rfl hi8) ?_
   refine st (v := (pt b9 (o10 + 1))) (rv_fieldAddr (off := 1) (ft := 26) Try.underlying32 rfl ti26 rfl rfl) ?_
   obtain ⟨_, ⟨_, _, rfl, rfl, ⟨_, _, rfl, ⟨rfl, hpl⟩, rfl⟩⟩, hl18, hc19⟩ := ((H.own 0 rfl).at hx7 hi8).cells
   replace H := Hp.unbig (H.sel' [1, 0] rfl rfl)
   obtain ⟨a20, c21, h22⟩ : IsSl p.2 p.1.2.1.length := (show Ow σ11 lo lo p.2 p.1.2.1 from H.head).isSl
   obtain ⟨px, hd⟩ := p
   dsimp only at h22 hq hys hc19
   subst h22
   have hc20 := hc19 1 (by simp)
   refine st (v := (Sl a20 px.2.1 c21)) (rv_load1 Try.underlying26 rfl rfl hc20) ?_
   refine st (v := (I (w64 (k + 1)))) (rv_move rfl) ?_
   replace H : Hp S0 σ0 σ11 [Ch.own lo lo (Sl a20 px.2.1 c21) px.2.1, Ch.big (qs.map (dow lo)), Ch.own lo lo (Sl aa_0 a_0 ca_0) ys] := H
   replace H := H.ownSc 0 0 0 rfl (Nat.zero_le _)
   have hc25 := c_laws_markIntS (aa_0 := a20) (ca_0 := c21) hq
   refine st_call (cx_call hc25 (ent_f hc25.fn rfl) hn0 (H.sel' [0, 1, 2] rfl rfl : Hp S0 σ0 _ ([_] ++ _))) (wanted_none _ rfl _) ?_
   rintro _ σ29 ⟨_, ⟨rfl, rfl, -⟩, H, -⟩
   replace H : Hp S0 σ0 σ29 [Ch.own 0 0 (Sl a20 q.2 c21) q.2, Ch.big (qs.map (dow lo)), Ch.own lo lo (Sl aa_0 a_0 ca_0) ys] := H
   replace H := H.sel' [2, 1] rfl rfl
   refine st (v := (I q.1)) (rv_assign rfl) ?_
   refine w_end ?_
   refine q_then ?_
   refine c_seq ?_
   refine rg ?_
   refine st (v := (Sl aa_0 a_0 ca_0)) (rv_move rfl) ?_
   refine st (v := (I (i : Int))) (rv_move rfl) ?_
   refine st (v := (I q.1)) (rv_move rfl) ?_
   obtain ⟨b9, o10, hi8, -⟩ := (H.own 0 rfl).ix hx7
   refine st (v := (pt b9 o10)) (rv_ix Try.underlying23 ti32 rfl rfl hi8) ?_
   refine st (v := (pt b9 (o10 + 2))) (rv_fieldAddr (off := 2) (ft := 3) Try.underlying32 rfl ti3 rfl rfl) ?_
   refine st_exS (ex_store_own (e' := ((k, (Sl a20 px.2.1 c21), q.1) : Int × Value × Int)) (vs := [(I q.1)]) (k := 2) H (i := 0) rfl ti3 hx7 hi8 rfl rfl rfl rfl rfl (Nat.le_of_ble_eq_true rfl) (by simp [plain]) (by rintro _ ⟨_, _, rfl, rfl, ⟨_, _, rfl, ⟨rfl, hpl⟩, rfl⟩⟩; exact ⟨[(I k)], [(Sl a20 px.2.1 c21), (I q.1)], rfl, rfl, ⟨[(Sl a20 px.2.1 c21)], [(I q.1)], rfl, ⟨rfl, hpl⟩, rfl⟩⟩)) (wanted_none _ rfl _) ?_
   rintro σ30 ⟨H, -⟩
   refine w_end ?_
   refine q_then ?_
   refine rg ?_
   refine st (v := (I q.1)) (rv_move rfl) ?_
   refine st (v := (I (w64 (q.1 + 1)))) (rv_add (a := q.1) (b := 1) rfl rfl) ?_
   refine st (v := (I (w64 (q.1 + 1)))) (rv_assign rfl) ?_
   refine w_end ?_
   refine q_blk ?_
   refine q_then ?_
   refine rg ?_
   refine st (v := (I (i : Int))) (rv_move rfl) ?_
   refine st (v := (I (w64 ((i : Int) + 1)))) (rv_add (a := (i : Int)) (b := 1) rfl rfl) ?_
   refine st (v := (I (w64 ((i : Int) + 1)))) (rv_assign rfl) ?_
   refine w_end ?_
   have e1 : w64 ((i : Int) + 1) = ((i + 1 : Nat) : Int) := w64_id (by omega) (by omega)
   rw [e1]
   refine q_then ?_
   rw [Int.toNat_natCast] at H
   exact ⟨m, by omega, i + 1, _, σ30, _, qs, _, by omega, by simpa using hqs, drop_next (drop_set hys), hk', fr_join ⟨rfl, rfl, rfl, trivial⟩, rfl, H⟩
  ·have hlt : ¬ i < a_0.length := by have := of_decide_eq_false hb; omega
   obtain rfl : m = 0 := by omega
   obtain rfl : qs = [] := List.eq_nil_of_length_eq_zero hqs
   obtain rfl : k = r := Option.some.inj hk
   refine c_exit ?_
   refine q_then_x ?_
   refine q_then_x ?_
   refine q_blk_hit ?_
   exact ⟨rfl, _, σ3, fr_join ⟨rfl, trivial⟩, rfl, H.sel' [] rfl rfl⟩
 ·clear H
  rintro e a w ⟨rfl, ρ, σ41, rfl, rfl, H⟩
  refine q_then ?_
  refine c_seq ?_
  refine rg ?_
  refine st (v := (I r)) (rv_move rfl) ?_
  refine st (v := (I r)) (rv_assign rfl) ?_
  refine w_end ?_
  refine q_then ?_
  refine c_ret ?_
  exact fin_ret (v := (I r)) (results_ok Try.results41 (res_tmp (v := (I r)) rfl res_nil) rfl) ⟨rfl, rfl⟩ H


theorem c_laws_markEntryS {a_0 : List (Int × (Int × (List Int) × Int))} {k_1 : Int} {aa_0 : Option Addr} {ca_0 : Nat} {lo : Nat} {K : List Ch} (hK : Dp lo (Sl aa_0 a_0 ca_0) a_0 K) {r : Int × List (Int × (Int × (List Int) × Int))} (h : M.markEntB a_0 k_1 = some r) :
    Cal2 Try.prog 42 [(Sl aa_0 a_0 ca_0), (I k_1)] [Ch.big K] (fun n0 v L => v = (I r.1) ∧ L = [Ch.ro 0 (Sl aa_0 r.2 ca_0) r.2] ∧ r.2.length = a_0.length) := by
 obtain ⟨hn, h⟩ := markEntB_some h
 obtain ⟨ps, hps, rfl⟩ := hK.ex
 refine cal2 (n := 44) Try.func42 rfl rfl rfl rfl ?_
 intro S0 σ0 n0 hn0 H
 refine c_seq ?_
 refine rg ?_
 refine st (v := (I 0)) (rv_assign rfl) ?_
 refine w_end ?_
 refine q_then ?_
 refine c_seq ?_
 refine c_seq ?_
 refine rg ?_
 refine st (v := (I 0)) (rv_assign rfl) ?_
 refine w_end ?_
 refine q_then ?_
 refine c_cut (fun e a w => e = .normal ∧ ∃ (ρ : Nat → Value) (σ : St) (ds : List ((Int × (Int × (List Int) × Int)) × Value)), a = fr 44 (updL ρ [(1, (I r.1))]) ∧ w = σ.w ∧ ds.length = a_0.length ∧ ds.map (·.1) = r.2 ∧ Hp S0 σ0 σ [Ch.own lo lo (Sl aa_0 a_0 ca_0) (ds.map dsh), Ch.big (ds.map (dow 0))]) ?_ ?_
 ·refine c_blk ?_
  have hlen : ps.length = a_0.length := by rw [hps]; simp
  refine wp_loop_ghost (fun m a w => ∃ (i : Nat) (ρ : Nat → Value) (σ : St) (ds qs : List ((Int × (Int × (List Int) × Int)) × Value)) (k : Int), i + m = a_0.length ∧ qs.length = m ∧ ds.length = i ∧ (∃ q, M.dmarkEntSB (qs.map (·.1)) k = some q ∧ r = (q.1, ds.map (·.1) ++ q.2)) ∧ a = fr 44 (updL ρ [(0, (Sl aa_0 a_0 ca_0)), (1, (I k)), (5, (I (i : Int)))]) ∧ w = σ.w ∧ Hp S0 σ0 σ [Ch.own lo lo (Sl aa_0 a_0 ca_0) (ds.map dsh ++ qs.map dsh), Ch.big (qs.map (dow lo)), Ch.big (ds.map (dow 0))]) a_0.length ⟨0, _, σ0, [], ps, k_1, by omega, hlen, rfl, ⟨r, hps ▸ h, rfl⟩, fr_join ⟨rfl, rfl, rfl, trivial⟩, rfl, H.unbig.bigNil.sel' [1, 2, 0] rfl rfl⟩ ?_
  clear H
  rintro m _ _ ⟨i, ρ, σ3, ds, qs, k, him, hqs, hds, ⟨q0, hk, hr⟩, rfl, rfl, H⟩
  have hdl : (ds.map (dsh : (Int × (Int × (List Int) × Int)) × Value → Int × (Int × Value × Int))).length = i := by rw [List.length_map]; exact hds
  refine c_seq ?_
  refine c_seq ?_
  refine rg ?_
  refine st (v := (I (i : Int))) (rv_move rfl) ?_
  refine st (v := (Sl aa_0 a_0 ca_0)) (rv_move rfl) ?_
  refine st (v := (I (a_0.length : Int))) (rv_len Try.underlying35 rfl) ?_
  refine st (v := (B (decide ((i : Int) < (a_0.length : Int))))) (rv_lss (a := (i : Int)) (b := (a_0.length : Int)) rfl rfl) ?_
  refine w_end ?_
  refine q_then ?_
  refine cd_cond (decide ((i : Int) < (a_0.length : Int))) rfl (fun hb => ?_) (fun hb => ?_)
  ·have hlt : i < a_0.length := by have := of_decide_eq_true hb; omega
   obtain ⟨m, rfl⟩ : ∃ m', m = m' + 1 := ⟨m - 1, by omega⟩
   obtain ⟨p, qs, rfl⟩ : ∃ p qs', qs = p :: qs' := by cases qs with
    | nil => cases hqs
    | cons p qs => exact ⟨p, qs, rfl⟩
   obtain ⟨q, hq, h1⟩ := bind_some (show (M.laws_markIntS p.1.2.2.1 (w64 (w64 (k + 1) + 1))).bind (fun q => (M.dmarkEntSB (qs.map (·.1)) (w64 (q.1 + 1))).bind fun t => some (t.1, (k, (w64 (k + 1), q.2, q.1)) :: t.2)) = some q0 from hk)
   obtain ⟨t, ht, h2⟩ := bind_some h1
   obtain rfl := Option.some.inj h2
   replace H : Hp S0 σ0 σ3 [Ch.own lo lo (Sl aa_0 a_0 ca_0) (ds.map dsh ++ dsh p :: qs.map dsh), Ch.big (dow lo p :: qs.map (dow lo)), Ch.big (ds.map (dow 0))] := H
   refine c_skip ?_
   refine q_then ?_
   refine c_seq ?_
   refine c_blk ?_
   refine c_seq ?_
   refine rg ?_
   refine st (v := (Sl aa_0 a_0 ca_0)) (rv_move rfl) ?_
   refine st (v := (I (i : Int))) (rv_move rfl) ?_
   refine st (v := (I k)) (rv_move rfl) ?_
   have hx7 : gidx (ds.map dsh ++ dsh p :: qs.map dsh) (i : Int) = some (dsh p : Int × (Int × Value × Int)) := gidx_mid hdl
   obtain ⟨b9, o10, hi8, -⟩ := (H.own 0 rfl).ix hx7
   refine st (v := (pt b9 o10)) (rv_ix Try.underlying35 ti42 rfl rfl hi8) ?_
   refine st (v := (pt b9 (o10 + 0))) (rv_fieldAddr (off := 0) (ft := 3) Try.underlying42 rfl ti3 rfl rfl) ?_
   refine st_exS (ex_store_own (e' := ((k, (p.1.2.1, p.2, p.1.2.2.2)) : Int × (Int × Value × Int))) (vs := [(I k)]) (k := 0) H (i := 0) rfl ti3 hx7 hi8 rfl rfl rfl rfl rfl (Nat.le_of_ble_eq_true rfl) (by simp [plain]) (by rintro _ ⟨_, _, rfl, rfl, ⟨_, _, rfl, rfl, ⟨_, _, rfl, ⟨rfl, hpl⟩, rfl⟩⟩⟩; exact ⟨[(I k)], [(I p.1.2.1), p.2, (I p.1.2.2.2)], rfl, rfl, ⟨[(I p.1.2.1)], [p.2, (I p.1.2.2.2)], rfl, rfl, ⟨[p.2], [(I p.1.2.2.2)], rfl, ⟨rfl, hpl⟩, rfl⟩⟩⟩)) (wanted_none _ rfl _) ?_
   rintro σ10 ⟨H, -⟩
   refine w_end ?_
   refine q_then ?_
   refine c_seq ?_
   refine rg ?_
   refine st (v := (I k)) (rv_move rfl) ?_
   refine st (v := (I (w64 (k + 1)))) (rv_add (a := k) (b := 1) rfl rfl) ?_
   refine st (v := (I (w64 (k + 1)))) (rv_assign rfl) ?_
   refine w_end ?_
   refine q_then ?_
   refine c_seq ?_
   refine rg ?_
   rw [Int.toNat_natCast, set_mid hdl] at H
   have hx7 : gidx (ds.map dsh ++ ((k, (p.1.2.1, p.2, p.1.2.2.2)) : Int × (Int × Value × Int)) :: qs.map dsh) (i : Int) = some ((k, (p.1.2.1, p.2, p.1.2.2.2)) : Int × (Int × Value × Int)) := gidx_mid hdl
   refine st (v := (Sl aa_0 a_0 ca_0)) (rv_move rfl) ?_
   refine st (v := (I (i : Int))) (rv_move rfl) ?_
   refine st (v := (I (w64 (k + 1)))) (rv_move rfl) ?_
   obtain ⟨b9, o10, hi8, -⟩ := (H.own 0 rfl).ix hx7
   refine st (v := (pt b9 o10)) (rv_ix Try.underlying35 ti42 rfl rfl hi8) ?_
   refine st (v := (pt b9 (o10 + 1))) (rv_fieldAddr (off := 1) (ft := 32) Try.underlying42 rfl ti32 rfl rfl) ?_
   refine st (v := (pt b9 (o10 + 1 + 0))) (rv_fieldAddr (off := 0) (ft := 3) Try.underlying32 rfl ti3 rfl rfl) ?_
   refine st_exS (ex_store_own (e' := ((k, ((w64 (k + 1)), p.2, p.1.2.2.2)) : Int × (Int × Value × Int))) (vs := [(I (w64 (k + 1)))]) (k := 1) H (i := 0) rfl ti3 hx7 hi8 rfl rfl rfl rfl rfl (Nat.le_of_ble_eq_true rfl) (by simp [plain]) (by rintro _ ⟨_, _, rfl, rfl, ⟨_, _, rfl, rfl, ⟨_, _, rfl, ⟨rfl, hpl⟩, rfl⟩⟩⟩; exact ⟨[(I k)], [(I (w64 (k + 1))), p.2, (I p.1.2.2.2)], rfl, rfl, ⟨[(I (w64 (k + 1)))], [p.2, (I p.1.2.2.2)], rfl, rfl, ⟨[p.2], [(I p.1.2.2.2)], rfl, ⟨rfl, hpl⟩, rfl⟩⟩⟩)) (wanted_none _ rfl _) ?_
   rintro σ11 ⟨H, -⟩
   refine w_end ?_
   refine q_then ?_
   refine c_seq ?_
   refine rg ?_
   refine st (v := (I (w64 (k + 1)))) (rv_move rfl) ?_
   refine st (v := (I (w64 (w64 (k + 1) + 1)))) (rv_add (a := (w64 (k + 1))) (b := 1) rfl rfl) ?_
   refine st (v := (I (w64 (w64 (k + 1) + 1)))) (rv_assign rfl) ?_
   refine w_end ?_
   refine q_then ?_
   refine c_seq ?_
   refine rg ?_
   rw [Int.toNat_natCast, set_mid hdl] at H
   have hx7 : gidx (ds.map dsh ++ ((k, ((w64 (k + 1)), p.2, p.1.2.2.2)) : Int × (Int × Value × Int)) :: qs.map dsh) (i : Int) = some ((k, ((w64 (k + 1)), p.2, p.1.2.2.2)) : Int × (Int × Value × Int)) := gidx_mid hdl
   refine st (v := (Sl aa_0 a_0 ca_0)) (rv_move rfl) ?_
   refine st (v := (I (i : Int))) (rv_move rfl) ?_
   obtain ⟨b9, o10, hi8, -⟩ := (H.own 0 rfl).ix hx7
   refine st (v := (pt b9 o10)) (rv_ix Try.underlying35 ti42 rfl rfl hi8) ?_
   refine st (v := (pt b9 (o10 + 1))) (rv_fieldAddr (off := 1) (ft := 32) Try.underlying42 rfl ti32 rfl rfl) ?_
   refine st (v := (pt b9 (o10 + 1 + 1))) (rv_fieldAddr (off := 1) (ft := 26) Try.underlying32 rfl ti26 rfl rfl) ?_
   obtain ⟨_, ⟨_, _, rfl, rfl, ⟨_, _, rfl, rfl, ⟨_, _, rfl, ⟨rfl, hpl⟩, rfl⟩⟩⟩, hl18, hc19⟩ := ((H.own 0 rfl).at hx7 hi8).cells
   replace H := Hp.unbig (H.sel' [1, 0, 2] rfl rfl)
   obtain ⟨a20, c21, h22⟩ : IsSl p.2 p.1.2.2.1.length := (show Ow σ11 lo lo p.2 p.1.2.2.1 from H.head).isSl
   obtain ⟨px, hd⟩ := p
   dsimp only at h22 hq hx7 hc19
   subst h22
   have hc20 := hc19 2 (by simp)
   refine st (v := (Sl a20 px.2.2.1 c21)) (rv_load1 Try.underlying26 rfl rfl hc20) ?_
   refine st (v := (I (w64 (w64 (k + 1) + 1)))) (rv_move rfl) ?_
   replace H : Hp S0 σ0 σ11 [Ch.own lo lo (Sl a20 px.2.2.1 c21) px.2.2.1, Ch.big (qs.map (dow lo)), Ch.own lo lo (Sl aa_0 a_0 ca_0) (ds.map dsh ++ ((k, ((w64 (k + 1)), (Sl a20 px.2.2.1 c21), px.2.2.2)) : Int × (Int × Value × Int)) :: qs.map dsh), Ch.big (ds.map (dow 0))] := H
   replace H := H.ownSc 0 0 0 rfl (Nat.zero_le _)
   have hc25 := c_laws_markIntS (aa_0 := a20) (ca_0 := c21) hq
   refine st_call (cx_call hc25 (ent_f hc25.fn rfl) hn0 (H.sel' [0, 1, 2, 3] rfl rfl : Hp S0 σ0 _ ([_] ++ _))) (wanted_none _ rfl _) ?_
   rintro _ σ29 ⟨_, ⟨rfl, rfl, hn⟩, H, -⟩
   replace H : Hp S0 σ0 σ29 [Ch.own 0 0 (Sl a20 q.2 c21) q.2, Ch.big (qs.map (dow lo)), Ch.own lo lo (Sl aa_0 a_0 ca_0) (ds.map dsh ++ ((k, ((w64 (k + 1)), (Sl a20 px.2.2.1 c21), px.2.2.2)) : Int × (Int × Value × Int)) :: qs.map dsh), Ch.big (ds.map (dow 0))] := H
   replace H := H.sel' [2, 1, 0, 3] rfl rfl
   refine st (v := (I q.1)) (rv_assign rfl) ?_
   refine w_end ?_
   refine q_then ?_
   refine c_seq ?_
   refine rg ?_
   refine st (v := (Sl aa_0 a_0 ca_0)) (rv_move rfl) ?_
   refine st (v := (I (i : Int))) (rv_move rfl) ?_
   refine st (v := (I q.1)) (rv_move rfl) ?_
   obtain ⟨b9, o10, hi8, -⟩ := (H.own 0 rfl).ix hx7
   refine st (v := (pt b9 o10)) (rv_ix Try.underlying35 ti42 rfl rfl hi8) ?_
   refine st (v := (pt b9 (o10 + 1))) (rv_fieldAddr (off := 1) (ft := 32) Try.underlying42 rfl ti32 rfl rfl) ?_
   refine st (v := (pt b9 (o10 + 1 + 2))) (rv_fieldAddr (off := 2) (ft := 3) Try.underlying32 rfl ti3 rfl rfl) ?_
   refine st_exS (ex_store_own (e' := ((k, ((w64 (k + 1)), (Sl a20 px.2.2.1 c21), q.1)) : Int × (Int × Value × Int))) (vs := [(I q.1)]) (k := 3) H (i := 0) rfl ti3 hx7 hi8 rfl rfl rfl rfl rfl (Nat.le_of_ble_eq_true rfl) (by simp [plain]) (by rintro _ ⟨_, _, rfl, rfl, ⟨_, _, rfl, rfl, ⟨_, _, rfl, ⟨rfl, hpl⟩, rfl⟩⟩⟩; exact ⟨[(I k)], [(I (w64 (k + 1))), (Sl a20 px.2.2.1 c21), (I q.1)], rfl, rfl, ⟨[(I (w64 (k + 1)))], [(Sl a20 px.2.2.1 c21), (I q.1)], rfl, rfl, ⟨[(Sl a20 px.2.2.1 c21)], [(I q.1)], rfl, ⟨rfl, hpl⟩, rfl⟩⟩⟩)) (wanted_none _ rfl _) ?_
   rintro σ30 ⟨H, -⟩
   refine w_end ?_
   refine q_then ?_
   refine rg ?_
   refine st (v := (I q.1)) (rv_move rfl) ?_
   refine st (v := (I (w64 (q.1 + 1)))) (rv_add (a := q.1) (b := 1) rfl rfl) ?_
   refine st (v := (I (w64 (q.1 + 1)))) (rv_assign rfl) ?_
   refine w_end ?_
   refine q_blk ?_
   refine q_then ?_
   refine rg ?_
   refine st (v := (I (i : Int))) (rv_move rfl) ?_
   refine st (v := (I (w64 ((i : Int) + 1)))) (rv_add (a := (i : Int)) (b := 1) rfl rfl) ?_
   refine st (v := (I (w64 ((i : Int) + 1)))) (rv_assign rfl) ?_
   refine w_end ?_
   have e1 : w64 ((i : Int) + 1) = ((i + 1 : Nat) : Int) := w64_id (by omega) (by omega)
   rw [e1]
   refine q_then ?_
   have hsl : ((k, ((w64 (k + 1)), (Sl a20 px.2.2.1 c21), q.1)) : Int × (Int × Value × Int)) = dsh (((k, ((w64 (k + 1)), q.2, q.1)) : Int × (Int × (List Int) × Int)), (Sl a20 q.2 c21)) := congrArg (fun z => ((k, ((w64 (k + 1)), z, q.1)) : Int × (Int × Value × Int))) (sl_len hn.symm)
   rw [Int.toNat_natCast, set_mid hdl, hsl] at H
   replace H := Hp.bigSnoc (H.sel' [2, 3, 1, 0] rfl rfl)
   replace H := H.sel' [2, 1, 0] rfl rfl
   refine ⟨m, by omega, i + 1, _, σ30, ds ++ [(((k, ((w64 (k + 1)), q.2, q.1)) : Int × (Int × (List Int) × Int)), (Sl a20 q.2 c21))], qs, _, by omega, by simpa using hqs, by simp [hds], ⟨t, ht, by rw [hr]; simp⟩, fr_join ⟨rfl, rfl, rfl, trivial⟩, rfl, ?_⟩
   rw [List.map_append, List.map_append, List.append_assoc]
   exact H
  ·have hlt : ¬ i < a_0.length := by have := of_decide_eq_false hb; omega
   obtain rfl : m = 0 := by omega
   obtain rfl : qs = [] := List.eq_nil_of_length_eq_zero hqs
   obtain rfl : (k, []) = q0 := Option.some.inj hk
   obtain rfl : k = r.1 := by rw [hr]
   have hr2 : ds.map (·.1) = r.2 := by rw [hr]; simp
   refine c_exit ?_
   refine q_then_x ?_
   refine q_then_x ?_
   refine q_blk_hit ?_
   rw [List.map_nil, List.append_nil] at H
   exact ⟨rfl, _, σ3, ds, fr_join ⟨rfl, trivial⟩, rfl, by omega, hr2, H.sel' [0, 2] rfl rfl⟩
 ·clear H
  rintro e a w ⟨rfl, ρ, σ41, ds, rfl, rfl, hdl, hds, H⟩
  have hlen : r.2.length = a_0.length := by rw [← hds, List.length_map]; exact hdl
  refine q_then ?_
  refine c_seq ?_
  refine rg ?_
  refine st (v := (I r.1)) (rv_move rfl) ?_
  refine st (v := (I r.1)) (rv_assign rfl) ?_
  refine w_end ?_
  refine q_then ?_
  refine c_ret ?_
  replace H := (H.ownLow 0 0 0 rfl (Nat.zero_le _) (Nat.zero_le _)).bigCons
  rw [show (Sl aa_0 a_0 ca_0) = (Sl aa_0 r.2 ca_0) from sl_len hlen.symm] at H
  obtain ⟨σ42, hw, H, -⟩ := H.dpPub 0 rfl (⟨⟨ds, hds.symm, rfl⟩⟩ : Dp 0 (Sl aa_0 r.2 ca_0) r.2 _)
  rw [← hw]
  exact fin_ret (v := (I r.1)) (results_ok Try.results42 (res_tmp (v := (I r.1)) rfl res_nil) rfl) ⟨rfl, rfl, hlen⟩ H


theorem c_laws_heldIntS {a_0 : List Int} {k_1 : Int} {aa_0 : Option Addr} {ca_0 : Nat} {r : Int} (h : M.laws_heldIntS a_0 k_1 = some r) :
    Cal2 Try.prog 83 [(Sl aa_0 a_0 ca_0), (I k_1)] [Ch.ro 0 (Sl aa_0 a_0 ca_0) a_0] (fun n0 v L => v = (I r) ∧ L = []) := by
 refine cal2 (n := 21) Try.func83 rfl rfl rfl rfl ?_
 intro S0 σ0 n0 hn0 H
 unfold M.laws_heldIntS at h
 refine c_seq ?_
 refine rg ?_
 refine st (v := (I 0)) (rv_assign rfl) ?_
 refine w_end ?_
 refine q_then ?_
 refine c_seq ?_
 refine c_seq ?_
 refine rg ?_
 refine st (v := (I 0)) (rv_assign rfl) ?_
 refine w_end ?_
 refine q_then ?_
 obtain ⟨o1, hj, h'⟩ := bind_some h
 clear h
 refine c_cut (fun e a w => (∃ t, o1 = (.inl t) ∧ e = .normal ∧ ∃ (ρ : Nat → Value) (σ : St), a = fr 21 (updL ρ [(1, (I t))]) ∧ w = σ.w ∧ Hp S0 σ0 σ []) ∨ (∃ t, o1 = (.inr t) ∧ e = .ret ∧ ∃ (ρ : Nat → Value) (σ : St), a = fr 21 (updL ρ [(4, (I t))]) ∧ w = σ.w ∧ Hp S0 σ0 σ [])) ?_ ?_
 ·clear h'
  rename _ = some o1 => h
  refine c_blk ?_
  refine wp_loopM _ h (fun s2 a w => ∃ (ρ : Nat → Value) (σ : St), a = fr 21 (updL ρ [(0, (Sl aa_0 a_0 ca_0)), (1, (I s2.1)), (5, (I s2.2))]) ∧ w = σ.w ∧ Hp S0 σ0 σ [Ch.ro 0 (Sl aa_0 a_0 ca_0) a_0]) ⟨_, σ0, fr_join ⟨rfl, rfl, rfl, trivial⟩, rfl, H.sel' [0] rfl rfl⟩ ?_
  clear h H
  rintro s2 a w o ⟨ρ, σ3, rfl, rfl, H⟩ h hres
  refine c_seq ?_
  refine c_seq ?_
  refine rg ?_
  refine st (v := (I s2.2)) (rv_move rfl) ?_
  refine st (v := (Sl aa_0 a_0 ca_0)) (rv_move rfl) ?_
  refine st (v := (I (a_0.length : Int))) (rv_len Try.underlying26 rfl) ?_
  refine st (v := (B (decide (s2.2 < (a_0.length : Int))))) (rv_lss (a := s2.2) (b := (a_0.length : Int)) rfl rfl) ?_
  refine w_end ?_
  refine q_then ?_
  refine cd_cond (decide (s2.2 < (a_0.length : Int))) rfl (fun hb4 => ?_) (fun hb4 => ?_)
  ·replace h := bif_t hb4 h
   refine c_skip ?_
   refine q_then ?_
   refine c_seq ?_
   refine c_blk ?_
   refine c_seq ?_
   refine c_seq ?_
   refine rg ?_
   refine st (v := (Sl aa_0 a_0 ca_0)) (rv_move rfl) ?_
   refine st (v := (I s2.2)) (rv_move rfl) ?_
   obtain ⟨x5, hx6, h'⟩ := bind_some h
   clear h
   have h := h'; clear h'
   obtain ⟨b8, o9, hi7, -⟩ := (H.ro 0 rfl).ix hx6
   refine st (v := (pt b8 o9)) (rv_ix Try.underlying26 ti3 rfl rfl hi7) ?_
   have hc10 := ((H.ro 0 rfl).at hx6 hi7).int
   refine st (v := (I x5)) (rv_load1 Try.underlying3 rfl rfl hc10) ?_
   refine st (v := (I s2.1)) (rv_move rfl) ?_
   refine st (v := (B (x5 != s2.1))) (rv_neq (a := x5) (b := s2.1) rfl rfl) ?_
   refine w_end ?_
   refine q_then ?_
   refine cd_cond (x5 != s2.1) rfl (fun hb11 => ?_) (fun hb11 => ?_)
   ·replace h := bif_t hb11 h
    refine c_seq ?_
    refine rg ?_
    refine st (v := (I (-1))) (rv_assign rfl) ?_
    refine w_end ?_
    refine q_then ?_
    refine c_ret ?_
    refine q_then_r ?_
    refine q_blk_r ?_
    refine q_then_r ?_
    refine q_then_r ?_
    refine q_blk_r ?_
    obtain rfl := Option.some.inj h
    obtain rfl := hres _ rfl
    exact .inr (⟨_, rfl, rfl, _, σ3, fr_join ⟨rfl, trivial⟩, rfl, H.sel' [] rfl rfl⟩)
   ·replace h := bif_f hb11 h
    refine c_skip ?_
    refine q_then ?_
    refine rg ?_
    refine st (v := (I s2.1)) (rv_move rfl) ?_
    refine st (v := (I (w64 (s2.1 + 1)))) (rv_add (a := s2.1) (b := 1) rfl rfl) ?_
    refine st (v := (I (w64 (s2.1 + 1)))) (rv_assign rfl) ?_
    refine w_end ?_
    refine q_blk ?_
    refine q_then ?_
    refine rg ?_
    refine st (v := (I s2.2)) (rv_move rfl) ?_
    refine st (v := (I (w64 (s2.2 + 1)))) (rv_add (a := s2.2) (b := 1) rfl rfl) ?_
    refine st (v := (I (w64 (s2.2 + 1)))) (rv_assign rfl) ?_
    refine w_end ?_
    refine q_then ?_
    obtain rfl := Option.some.inj h
    exact ⟨_, rfl, _, σ3, fr_join ⟨rfl, rfl, rfl, trivial⟩, rfl, H.sel' [0] rfl rfl⟩
  ·replace h := bif_f hb4 h
   refine c_exit ?_
   refine q_then_x ?_
   refine q_then_x ?_
   refine q_blk_hit ?_
   obtain rfl := Option.some.inj h
   obtain rfl := hres _ rfl
   exact .inl ⟨_, rfl, rfl, _, σ3, fr_join ⟨rfl, trivial⟩, rfl, H.sel' [] rfl rfl⟩
 ·clear hj
  have h := h'
  clear h' H
  rintro e a w (⟨t12, rfl, rfl, ρ, σ13, rfl, rfl, H⟩ | ⟨t14, rfl, rfl, ρ, σ15, rfl, rfl, H⟩)
  ·replace h := selim_l h
   refine q_then ?_
   refine c_seq ?_
   refine rg ?_
   refine st (v := (I t12)) (rv_move rfl) ?_
   refine st (v := (I t12)) (rv_assign rfl) ?_
   refine w_end ?_
   refine q_then ?_
   refine c_ret ?_
   obtain rfl := Option.some.inj h
   exact fin_ret (v := (I t12)) (results_ok Try.results83 (res_tmp (v := (I t12)) rfl res_nil) rfl) ⟨rfl, rfl⟩ (H.sel' [] rfl rfl)
  ·replace h := selim_r h
   refine q_then_r ?_
   obtain rfl := Option.some.inj h
   exact fin_ret (v := (I t14)) (results_ok Try.results83 (res_tmp (v := (I t14)) rfl res_nil) rfl) ⟨rfl, rfl⟩ (H.sel' [] rfl rfl)

theorem c_laws_heldEntryS {a_0 : List (Int × (Int × (List Int) × Int))} {k_1 : Int} {aa_0 : Option Addr} {ca_0 : Nat} {r : Int} (h : M.laws_heldEntryS a_0 k_1 = some r) :
    Cal2 Try.prog 46 [(Sl aa_0 a_0 ca_0), (I k_1)] [Ch.ro 0 (Sl aa_0 a_0 ca_0) a_0] (fun n0 v L => v = (I r) ∧ L = []) := by
 refine cal2 (n := 52) Try.func46 rfl rfl rfl rfl ?_
 intro S0 σ0 n0 hn0 H
 unfold M.laws_heldEntryS at h
 refine c_seq ?_
 refine rg ?_
 refine st (v := (I 0)) (rv_assign rfl) ?_
 refine w_end ?_
 refine q_then ?_
 refine c_seq ?_
 refine c_seq ?_
 refine rg ?_
 refine st (v := (I 0)) (rv_assign rfl) ?_
 refine w_end ?_
 refine q_then ?_
 obtain ⟨o1, hj, h'⟩ := bind_some h
 clear h
 refine c_cut (fun e a w => (∃ t, o1 = (.inl t) ∧ e = .normal ∧ ∃ (ρ : Nat → Value) (σ : St), a = fr 52 (updL ρ [(1, (I t))]) ∧ w = σ.w ∧ Hp S0 σ0 σ []) ∨ (∃ t, o1 = (.inr t) ∧ e = .ret ∧ ∃ (ρ : Nat → Value) (σ : St), a = fr 52 (updL ρ [(4, (I t))]) ∧ w = σ.w ∧ Hp S0 σ0 σ [])) ?_ ?_
 ·clear h'
  rename _ = some o1 => h
  refine c_blk ?_
  refine wp_loopM _ h (fun s2 a w => ∃ (ρ : Nat → Value) (σ : St), a = fr 52 (updL ρ [(0, (Sl aa_0 a_0 ca_0)), (1, (I s2.1)), (5, (I s2.2))]) ∧ w = σ.w ∧ Hp S0 σ0 σ [Ch.ro 0 (Sl aa_0 a_0 ca_0) a_0]) ⟨_, σ0, fr_join ⟨rfl, rfl, rfl, trivial⟩, rfl, H.sel' [0] rfl rfl⟩ ?_
  clear h H
  rintro s2 a w o ⟨ρ, σ3, rfl, rfl, H⟩ h hres
  refine c_seq ?_
  refine c_seq ?_
  refine rg ?_
  refine st (v := (I s2.2)) (rv_move rfl) ?_
  refine st (v := (Sl aa_0 a_0 ca_0)) (rv_move rfl) ?_
  refine st (v := (I (a_0.length : Int))) (rv_len Try.underlying35 rfl) ?_
  refine st (v := (B (decide (s2.2 < (a_0.length : Int))))) (rv_lss (a := s2.2) (b := (a_0.length : Int)) rfl rfl) ?_
  refine w_end ?_
  refine q_then ?_
  refine cd_cond (decide (s2.2 < (a_0.length : Int))) rfl (fun hb4 => ?_) (fun hb4 => ?_)
  ·replace h := bif_t hb4 h
   refine c_skip ?_
   refine q_then ?_
   refine c_seq ?_
   refine c_blk ?_
   refine c_seq ?_
   refine c_seq ?_
   refine rg ?_
   refine st (v := (Sl aa_0 a_0 ca_0)) (rv_move rfl) ?_
   refine st (v := (I s2.2)) (rv_move rfl) ?_
   obtain ⟨x5, hx6, h'⟩ := bind_some h
   clear h
   have h := h'; clear h'
   obtain ⟨b8, o9, hi7, -⟩ := (H.ro 0 rfl).ix hx6
   refine st (v := (pt b8 o9)) (rv_ix Try.underlying35 ti42 rfl rfl hi7) ?_
   refine st (v := (pt b8 (o9 + 0))) (rv_fieldAddr (off := 0) (ft := 3) Try.underlying42 rfl ti3 rfl rfl) ?_
   have hc10 := ((H.ro 0 rfl).at hx6 hi7).fst.int
   refine st (v := (I x5.1)) (rv_load1 Try.underlying3 rfl rfl hc10) ?_
   refine st (v := (I s2.1)) (rv_move rfl) ?_
   refine st (v := (B (x5.1 != s2.1))) (rv_neq (a := x5.1) (b := s2.1) rfl rfl) ?_
   refine w_end ?_
   refine q_then ?_
   refine cd_cond (x5.1 != s2.1) rfl (fun hb11 => ?_) (fun hb11 => ?_)
   ·replace h := bif_t hb11 h
    refine c_seq ?_
    refine rg ?_
    refine st (v := (I (-1))) (rv_assign rfl) ?_
    refine w_end ?_
    refine q_then ?_
    refine c_ret ?_
    refine q_then_r ?_
    refine q_blk_r ?_
    refine q_then_r ?_
    refine q_then_r ?_
    refine q_blk_r ?_
    obtain rfl := Option.some.inj h
    obtain rfl := hres _ rfl
    exact .inr (⟨_, rfl, rfl, _, σ3, fr_join ⟨rfl, trivial⟩, rfl, H.sel' [] rfl rfl⟩)
   ·replace h := bif_f hb11 h
    refine c_skip ?_
    refine q_then ?_
    refine c_seq ?_
    refine rg ?_
    refine st (v := (I s2.1)) (rv_move rfl) ?_
    refine st (v := (I (w64 (s2.1 + 1)))) (rv_add (a := s2.1) (b := 1) rfl rfl) ?_
    refine st (v := (I (w64 (s2.1 + 1)))) (rv_assign rfl) ?_
    refine w_end ?_
    refine q_then ?_
    refine c_seq ?_
    refine c_seq ?_
    refine rg ?_
    refine st (v := (Sl aa_0 a_0 ca_0)) (rv_move rfl) ?_
    refine st (v := (I s2.2)) (rv_move rfl) ?_
    obtain ⟨x12, hx13, h'⟩ := bind_some h
    clear h
    have h := h'; clear h'
    obtain ⟨b15, o16, hi14, -⟩ := (H.ro 0 rfl).ix hx13
    refine st (v := (pt b15 o16)) (rv_ix Try.underlying35 ti42 rfl rfl hi14) ?_
    refine st (v := (pt b15 (o16 + 1))) (rv_fieldAddr (off := 1) (ft := 32) Try.underlying42 rfl ti32 rfl rfl) ?_
    refine st (v := (pt b15 (o16 + 1))) (rv_fieldAddr (off := 0) (ft := 3) Try.underlying32 rfl ti3 rfl rfl) ?_
    have hc17 := ((H.ro 0 rfl).at hx13 hi14).snd.fst.int
    refine st (v := (I x12.2.1)) (rv_load1 Try.underlying3 rfl rfl hc17) ?_
    refine st (v := (I (w64 (s2.1 + 1)))) (rv_move rfl) ?_
    refine st (v := (B (x12.2.1 != (w64 (s2.1 + 1))))) (rv_neq (a := x12.2.1) (b := (w64 (s2.1 + 1))) rfl rfl) ?_
    refine w_end ?_
    refine q_then ?_
    refine cd_cond (x12.2.1 != (w64 (s2.1 + 1))) rfl (fun hb18 => ?_) (fun hb18 => ?_)
    ·replace h := bif_t hb18 h
     refine c_seq ?_
     refine rg ?_
     refine st (v := (I (-1))) (rv_assign rfl) ?_
     refine w_end ?_
     refine q_then ?_
     refine c_ret ?_
     refine q_then_r ?_
     refine q_blk_r ?_
     refine q_then_r ?_
     refine q_then_r ?_
     refine q_blk_r ?_
     obtain rfl := Option.some.inj h
     obtain rfl := hres _ rfl
     exact .inr (⟨_, rfl, rfl, _, σ3, fr_join ⟨rfl, trivial⟩, rfl, H.sel' [] rfl rfl⟩)
    ·replace h := bif_f hb18 h
     refine c_skip ?_
     refine q_then ?_
     refine c_seq ?_
     refine rg ?_
     refine st (v := (I (w64 (s2.1 + 1)))) (rv_move rfl) ?_
     refine st (v := (I (w64 ((w64 (s2.1 + 1)) + 1)))) (rv_add (a := (w64 (s2.1 + 1))) (b := 1) rfl rfl) ?_
     refine st (v := (I (w64 ((w64 (s2.1 + 1)) + 1)))) (rv_assign rfl) ?_
     refine w_end ?_
     refine q_then ?_
     refine c_seq ?_
     refine rg ?_
     refine st (v := (Sl aa_0 a_0 ca_0)) (rv_move rfl) ?_
     refine st (v := (I s2.2)) (rv_move rfl) ?_
     obtain ⟨x19, hx20, h'⟩ := bind_some h
     clear h
     have h := h'; clear h'
     obtain ⟨b22, o23, hi21, -⟩ := (H.ro 0 rfl).ix hx20
     refine st (v := (pt b22 o23)) (rv_ix Try.underlying35 ti42 rfl rfl hi21) ?_
     refine st (v := (pt b22 (o23 + 1))) (rv_fieldAddr (off := 1) (ft := 32) Try.underlying42 rfl ti32 rfl rfl) ?_
     refine st (v := (pt b22 (o23 + 2))) (rv_fieldAddr (off := 1) (ft := 26) Try.underlying32 rfl ti26 rfl rfl) ?_
     obtain ⟨v27, hc28, hR26⟩ := ((H.ro 0 rfl).at hx20 hi21).snd.snd.fst.slice
     obtain ⟨a24, c25, rfl⟩ := hR26.isSl
     replace H := H.add (d := Ch.ro 0 (Sl a24 x19.2.2.1 c25) x19.2.2.1) hR26 (fun _ h => h)
     clear hR26
     refine st (v := (Sl a24 x19.2.2.1 c25)) (rv_load1 Try.underlying26 rfl rfl hc28) ?_
     refine st (v := (I (w64 ((w64 (s2.1 + 1)) + 1)))) (rv_move rfl) ?_
     obtain ⟨r29, hx30, h'⟩ := bind_some h
     clear h
     have h := h'; clear h'
     have hc31 := c_laws_heldIntS (aa_0 := a24) (ca_0 := c25) hx30
     refine st_call (cx_call hc31 (ent_f hc31.fn rfl) hn0 (show Hp S0 σ0 _ ([Ch.ro 0 (Sl a24 x19.2.2.1 c25) x19.2.2.1] ++ [Ch.ro 0 (Sl a24 x19.2.2.1 c25) x19.2.2.1, Ch.ro 0 (Sl aa_0 a_0 ca_0) a_0]) from (H.sel' [0, 0, 1] rfl rfl))) wn ?_
     rintro _ σ32 ⟨_, ⟨rfl, rfl⟩, H, -⟩
     replace H : Hp S0 σ0 σ32 [Ch.ro 0 (Sl a24 x19.2.2.1 c25) x19.2.2.1, Ch.ro 0 (Sl aa_0 a_0 ca_0) a_0] := H
     refine st (v := (I r29)) (rv_assign rfl) ?_
     refine w_end ?_
     refine q_then ?_
     refine c_seq ?_
     refine c_seq ?_
     refine rg ?_
     refine st (v := (I r29)) (rv_move rfl) ?_
     refine st (v := (B (decide (r29 < 0)))) (rv_lss (a := r29) (b := 0) rfl rfl) ?_
     refine w_end ?_
     refine q_then ?_
     refine cd_cond (decide (r29 < 0)) rfl (fun hb33 => ?_) (fun hb33 => ?_)
     ·replace h := bif_t hb33 h
      refine c_seq ?_
      refine rg ?_
      refine st (v := (I (-1))) (rv_assign rfl) ?_
      refine w_end ?_
      refine q_then ?_
      refine c_ret ?_
      refine q_then_r ?_
      refine q_blk_r ?_
      refine q_then_r ?_
      refine q_then_r ?_
      refine q_blk_r ?_
      obtain rfl := Option.some.inj h
      obtain rfl := hres _ rfl
      exact .inr (⟨_, rfl, rfl, _, σ32, fr_join ⟨rfl, trivial⟩, rfl, H.sel' [] rfl rfl⟩)
     ·replace h := bif_f hb33 h
      refine c_skip ?_
      refine q_then ?_
      refine c_seq ?_
      refine c_seq ?_
      refine rg ?_
      refine st (v := (Sl aa_0 a_0 ca_0)) (rv_move rfl) ?_
      refine st (v := (I s2.2)) (rv_move rfl) ?_
      obtain ⟨x34, hx35, h'⟩ := bind_some h
      clear h
      have h := h'; clear h'
      obtain ⟨b37, o38, hi36, -⟩ := (H.ro 1 rfl).ix hx35
      refine st (v := (pt b37 o38)) (rv_ix Try.underlying35 ti42 rfl rfl hi36) ?_
      refine st (v := (pt b37 (o38 + 1))) (rv_fieldAddr (off := 1) (ft := 32) Try.underlying42 rfl ti32 rfl rfl) ?_
      refine st (v := (pt b37 (o38 + 3))) (rv_fieldAddr (off := 2) (ft := 3) Try.underlying32 rfl ti3 rfl rfl) ?_
      have hc39 := ((H.ro 1 rfl).at hx35 hi36).snd.snd.snd.int
      refine st (v := (I x34.2.2.2)) (rv_load1 Try.underlying3 rfl rfl hc39) ?_
      refine st (v := (I r29)) (rv_move rfl) ?_
      refine st (v := (B (x34.2.2.2 != r29))) (rv_neq (a := x34.2.2.2) (b := r29) rfl rfl) ?_
      refine w_end ?_
      refine q_then ?_
      refine cd_cond (x34.2.2.2 != r29) rfl (fun hb40 => ?_) (fun hb40 => ?_)
      ·replace h := bif_t hb40 h
       refine c_seq ?_
       refine rg ?_
       refine st (v := (I (-1))) (rv_assign rfl) ?_
       refine w_end ?_
       refine q_then ?_
       refine c_ret ?_
       refine q_then_r ?_
       refine q_blk_r ?_
       refine q_then_r ?_
       refine q_then_r ?_
       refine q_blk_r ?_
       obtain rfl := Option.some.inj h
       obtain rfl := hres _ rfl
       exact .inr (⟨_, rfl, rfl, _, σ32, fr_join ⟨rfl, trivial⟩, rfl, H.sel' [] rfl rfl⟩)
      ·replace h := bif_f hb40 h
       refine c_skip ?_
       refine q_then ?_
       refine rg ?_
       refine st (v := (I r29)) (rv_move rfl) ?_
       refine st (v := (I (w64 (r29 + 1)))) (rv_add (a := r29) (b := 1) rfl rfl) ?_
       refine st (v := (I (w64 (r29 + 1)))) (rv_assign rfl) ?_
       refine w_end ?_
       refine q_blk ?_
       refine q_then ?_
       refine rg ?_
       refine st (v := (I s2.2)) (rv_move rfl) ?_
       refine st (v := (I (w64 (s2.2 + 1)))) (rv_add (a := s2.2) (b := 1) rfl rfl) ?_
       refine st (v := (I (w64 (s2.2 + 1)))) (rv_assign rfl) ?_
       refine w_end ?_
       refine q_then ?_
       obtain rfl := Option.some.inj h
       exact ⟨_, rfl, _, σ32, fr_join ⟨rfl, rfl, rfl, trivial⟩, rfl, H.sel' [1] rfl rfl⟩
  ·replace h := bif_f hb4 h
   refine c_exit ?_
   refine q_then_x ?_
   refine q_then_x ?_
   refine q_blk_hit ?_
   obtain rfl := Option.some.inj h
   obtain rfl := hres _ rfl
   exact .inl ⟨_, rfl, rfl, _, σ3, fr_join ⟨rfl, trivial⟩, rfl, H.sel' [] rfl rfl⟩
 ·clear hj
  have h := h'
  clear h' H
  rintro e a w (⟨t41, rfl, rfl, ρ, σ42, rfl, rfl, H⟩ | ⟨t43, rfl, rfl, ρ, σ44, rfl, rfl, H⟩)
  ·replace h := selim_l h
   refine q_then ?_
   refine c_seq ?_
   refine rg ?_
   refine st (v := (I t41)) (rv_move rfl) ?_
   refine st (v := (I t41)) (rv_assign rfl) ?_
   refine w_end ?_
   refine q_then ?_
   refine c_ret ?_
   obtain rfl := Option.some.inj h
   exact fin_ret (v := (I t41)) (results_ok Try.results46 (res_tmp (v := (I t41)) rfl res_nil) rfl) ⟨rfl, rfl⟩ (H.sel' [] rfl rfl)
  ·replace h := selim_r h
   refine q_then_r ?_
   obtain rfl := Option.some.inj h
   exact fin_ret (v := (I t43)) (results_ok Try.results46 (res_tmp (v := (I t43)) rfl res_nil) rfl) ⟨rfl, rfl⟩ (H.sel' [] rfl rfl)

theorem c_laws_FnExactLogBetween {aA_0 : List (Int × (List Int) × Int)} {aB_1 : List (Int × (List Int) × Int)} {aaA_0 : Option Addr} {caA_0 : Nat} {aaB_1 : Option Addr} {caB_1 : Nat} {r : Bool} (h : M.laws_FnExactLogBetween aA_0 aB_1 = some r) :
    Cal2 Try.prog 11 [(Sl aaA_0 aA_0 caA_0), (Sl aaB_1 aB_1 caB_1)] [Ch.ro 0 (Sl aaA_0 aA_0 caA_0) aA_0, Ch.ro 0 (Sl aaB_1 aB_1 caB_1) aB_1] (fun n0 v L => v = (B r) ∧ L = []) := by
 refine cal2 (n := 92) Try.func11 rfl rfl rfl rfl ?_
 intro S0 σ0 n0 hn0 H
 unfold M.laws_FnExactLogBetween at h
 refine c_seq ?_
 refine rg ?_
 refine st (v := (B false)) (rv_assign rfl) ?_
 refine w_end ?_
 refine q_then ?_
 refine c_seq ?_
 refine rg ?_
 refine st (v := (I 1048576)) (rv_assign rfl) ?_
 refine w_end ?_
 refine q_then ?_
 refine c_seq ?_
 refine rg ?_
 refine st (v := (Sl aaA_0 aA_0 caA_0)) (rv_move rfl) ?_
 refine st (v := (I 1048576)) (rv_move rfl) ?_
 obtain ⟨r1, hx2, h'⟩ := bind_some h
 clear h
 have h := h'; clear h'
 have hc3 := c_laws_szItemS (aa_0 := aaA_0) (ca_0 := caA_0) hx2
 refine st_call (cx_call hc3 (ent_f hc3.fn rfl) hn0 (show Hp S0 σ0 _ ([Ch.ro 0 (Sl aaA_0 aA_0 caA_0) aA_0] ++ [Ch.ro 0 (Sl aaA_0 aA_0 caA_0) aA_0, Ch.ro 0 (Sl aaB_1 aB_1 caB_1) aB_1]) from (H.sel' [0, 0, 1] rfl rfl))) wn ?_
 rintro _ σ4 ⟨_, ⟨rfl, rfl⟩, H, -⟩
 replace H : Hp S0 σ0 σ4 [Ch.ro 0 (Sl aaA_0 aA_0 caA_0) aA_0, Ch.ro 0 (Sl aaB_1 aB_1 caB_1) aB_1] := H
 refine st (v := (I r1)) (rv_assign rfl) ?_
 refine w_end ?_
 refine q_then ?_
 refine c_seq ?_
 refine c_seq ?_
 refine rg ?_
 refine st (v := (I r1)) (rv_move rfl) ?_
 refine st (v := (B (decide (r1 < 0)))) (rv_lss (a := r1) (b := 0) rfl rfl) ?_
 refine w_end ?_
 refine q_then ?_
 refine cd_cond (decide (r1 < 0)) rfl (fun hb5 => ?_) (fun hb5 => ?_)
 ·replace h := bif_t hb5 h
  refine c_seq ?_
  refine rg ?_
  refine st (v := (B true)) (rv_assign rfl) ?_
  refine w_end ?_
  refine q_then ?_
  refine c_ret ?_
  refine q_then_r ?_
  obtain rfl := Option.some.inj h
  exact fin_ret (v := (B true)) (results_ok Try.results11 (res_tmp (v := (B true)) rfl res_nil) rfl) ⟨rfl, rfl⟩ (H.sel' [] rfl rfl)
 ·replace h := bif_f hb5 h
  refine c_skip ?_
  refine q_then ?_
  refine c_seq ?_
  refine rg ?_
  refine st (v := (Sl aaB_1 aB_1 caB_1)) (rv_move rfl) ?_
  refine st (v := (I r1)) (rv_move rfl) ?_
  obtain ⟨r6, hx7, h'⟩ := bind_some h
  clear h
  have h := h'; clear h'
  have hc8 := c_laws_szItemS (aa_0 := aaB_1) (ca_0 := caB_1) hx7
  refine st_call (cx_call hc8 (ent_f hc8.fn rfl) hn0 (show Hp S0 σ0 _ ([Ch.ro 0 (Sl aaB_1 aB_1 caB_1) aB_1] ++ [Ch.ro 0 (Sl aaA_0 aA_0 caA_0) aA_0, Ch.ro 0 (Sl aaB_1 aB_1 caB_1) aB_1]) from (H.sel' [1, 0, 1] rfl rfl))) wn ?_
  rintro _ σ9 ⟨_, ⟨rfl, rfl⟩, H, -⟩
  replace H : Hp S0 σ0 σ9 [Ch.ro 0 (Sl aaA_0 aA_0 caA_0) aA_0, Ch.ro 0 (Sl aaB_1 aB_1 caB_1) aB_1] := H
  refine st (v := (I r6)) (rv_assign rfl) ?_
  refine w_end ?_
  refine q_then ?_
  refine c_seq ?_
  refine c_seq ?_
  refine rg ?_
  refine st (v := (I r6)) (rv_move rfl) ?_
  refine st (v := (B (decide (r6 < 0)))) (rv_lss (a := r6) (b := 0) rfl rfl) ?_
  refine w_end ?_
  refine q_then ?_
  refine cd_cond (decide (r6 < 0)) rfl (fun hb10 => ?_) (fun hb10 => ?_)
  ·replace h := bif_t hb10 h
   refine c_seq ?_
   refine rg ?_
   refine st (v := (B true)) (rv_assign rfl) ?_
   refine w_end ?_
   refine q_then ?_
   refine c_ret ?_
   refine q_then_r ?_
   obtain rfl := Option.some.inj h
   exact fin_ret (v := (B true)) (results_ok Try.results11 (res_tmp (v := (B true)) rfl res_nil) rfl) ⟨rfl, rfl⟩ (H.sel' [] rfl rfl)
  ·replace h := bif_f hb10 h
   refine c_skip ?_
   refine q_then ?_
   refine c_seq ?_
   refine rg ?_
   refine st (v := (Sl aaA_0 aA_0 caA_0)) (rv_move rfl) ?_
   obtain ⟨r11, hx12, h'⟩ := bind_some h
   clear h
   have h := h'; clear h'
   have hc13 := c_laws_toItemS (aa_0 := aaA_0) (ca_0 := caA_0) hx12
   refine st_call (cx_call hc13 (ent_f hc13.fn rfl) hn0 (show Hp S0 σ0 _ ([Ch.ro 0 (Sl aaA_0 aA_0 caA_0) aA_0] ++ [Ch.ro 0 (Sl aaA_0 aA_0 caA_0) aA_0, Ch.ro 0 (Sl aaB_1 aB_1 caB_1) aB_1]) from (H.sel' [0, 0, 1] rfl rfl))) wn ?_
   rintro _ σ18 ⟨_, ⟨a14, c15, K16, rfl, rfl, hK17⟩, H, -⟩
   replace H : Hp S0 σ0 σ18 [Ch.big K16, Ch.ro 0 (Sl aaA_0 aA_0 caA_0) aA_0, Ch.ro 0 (Sl aaB_1 aB_1 caB_1) aB_1] := H
   refine st (v := (Sl aaB_1 aB_1 caB_1)) (rv_move rfl) ?_
   obtain ⟨r19, hx20, h'⟩ := bind_some h
   clear h
   have h := h'; clear h'
   have hc21 := c_laws_toItemS (aa_0 := aaB_1) (ca_0 := caB_1) hx20
   refine st_call (cx_call hc21 (ent_f hc21.fn rfl) hn0 (show Hp S0 σ0 _ ([Ch.ro 0 (Sl aaB_1 aB_1 caB_1) aB_1] ++ [Ch.big K16, Ch.ro 0 (Sl aaA_0 aA_0 caA_0) aA_0, Ch.ro 0 (Sl aaB_1 aB_1 caB_1) aB_1]) from (H.sel' [2, 0, 1, 2] rfl rfl))) wn ?_
   rintro _ σ26 ⟨_, ⟨a22, c23, K24, rfl, rfl, hK25⟩, H, -⟩
   replace H : Hp S0 σ0 σ26 [Ch.big K24, Ch.big K16, Ch.ro 0 (Sl aaA_0 aA_0 caA_0) aA_0, Ch.ro 0 (Sl aaB_1 aB_1 caB_1) aB_1] := H
   obtain ⟨r27, hx28, h'⟩ := bind_some h
   clear h
   have h := h'; clear h'
   have hc29 := c_spec_LogBetween (aa_0 := a14) (ca_0 := c15) (ab_1 := a22) (cb_1 := c23) hx28
   have hle := Nat.le_trans hn0 H.size
   refine st_call (cx_lend (Loan.lendB hK17.lends (Loan.lendB hK25.lends Loan.nil)) hc29 (ent_f hc29.fn rfl) (show Hp S0 σ0 _ ([Ch.big K16, Ch.big K24] ++ ([] ++ [Ch.ro 0 (Sl aaA_0 aA_0 caA_0) aA_0, Ch.ro 0 (Sl aaB_1 aB_1 caB_1) aB_1])) from (H.sel' [1, 0, 2, 3] rfl rfl)) (by rintro _ _ _ ⟨_, _, rfl, rfl⟩; exact ⟨Ab.own (Nat.le_refl _), trivial⟩)) wn ?_
   rintro _ σ32 ⟨_, ⟨a30, c31, rfl, rfl⟩, H, -, -⟩
   replace H : Hp S0 σ0 σ32 [Ch.own σ26.size σ26.size (Sl a30 r27 c31) r27, Ch.big K16, Ch.big K24, Ch.ro 0 (Sl aaA_0 aA_0 caA_0) aA_0, Ch.ro 0 (Sl aaB_1 aB_1 caB_1) aB_1] := H
   replace H := H.ownLow 0 n0 n0 rfl hle hle
   clear hle
   replace H : Hp S0 σ0 σ32 [Ch.own n0 n0 (Sl a30 r27 c31) r27, Ch.big K16, Ch.big K24, Ch.ro 0 (Sl aaA_0 aA_0 caA_0) aA_0, Ch.ro 0 (Sl aaB_1 aB_1 caB_1) aB_1] := H
   refine st (v := (Sl a30 r27 c31)) (rv_assign rfl) ?_
   refine w_end ?_
   refine q_then ?_
   refine c_seq ?_
   refine rg ?_
   refine st (v := (Sl aaA_0 aA_0 caA_0)) (rv_move rfl) ?_
   obtain ⟨r33, hx34, h'⟩ := bind_some h
   clear h
   have h := h'; clear h'
   have hc35 := c_laws_toItemS (aa_0 := aaA_0) (ca_0 := caA_0) hx34
   refine st_call (cx_call hc35 (ent_f hc35.fn rfl) hn0 (show Hp S0 σ0 _ ([Ch.ro 0 (Sl aaA_0 aA_0 caA_0) aA_0] ++ [Ch.own n0 n0 (Sl a30 r27 c31) r27, Ch.big K16, Ch.big K24, Ch.ro 0 (Sl aaA_0 aA_0 caA_0) aA_0, Ch.ro 0 (Sl aaB_1 aB_1 caB_1) aB_1]) from (H.sel' [3, 0, 1, 2, 3, 4] rfl rfl))) wn ?_
   rintro _ σ40 ⟨_, ⟨a36, c37, K38, rfl, rfl, hK39⟩, H, -⟩
   replace H : Hp S0 σ0 σ40 [Ch.big K38, Ch.own n0 n0 (Sl a30 r27 c31) r27, Ch.big K16, Ch.big K24, Ch.ro 0 (Sl aaA_0 aA_0 caA_0) aA_0, Ch.ro 0 (Sl aaB_1 aB_1 caB_1) aB_1] := H
   refine st (v := (Sl a36 r33 c37)) (rv_assign rfl) ?_
   refine w_end ?_
   refine q_then ?_
   refine c_seq ?_
   refine rg ?_
   refine st (v := (Sl aaB_1 aB_1 caB_1)) (rv_move rfl) ?_
   obtain ⟨r41, hx42, h'⟩ := bind_some h
   clear h
   have h := h'; clear h'
   have hc43 := c_laws_toItemS (aa_0 := aaB_1) (ca_0 := caB_1) hx42
   refine st_call (cx_call hc43 (ent_f hc43.fn rfl) hn0 (show Hp S0 σ0 _ ([Ch.ro 0 (Sl aaB_1 aB_1 caB_1) aB_1] ++ [Ch.big K38, Ch.own n0 n0 (Sl a30 r27 c31) r27, Ch.big K16, Ch.big K24, Ch.ro 0 (Sl aaA_0 aA_0 caA_0) aA_0, Ch.ro 0 (Sl aaB_1 aB_1 caB_1) aB_1]) from (H.sel' [5, 0, 1, 2, 3, 4, 5] rfl rfl))) wn ?_
   rintro _ σ48 ⟨_, ⟨a44, c45, K46, rfl, rfl, hK47⟩, H, -⟩
   replace H : Hp S0 σ0 σ48 [Ch.big K46, Ch.big K38, Ch.own n0 n0 (Sl a30 r27 c31) r27, Ch.big K16, Ch.big K24, Ch.ro 0 (Sl aaA_0 aA_0 caA_0) aA_0, Ch.ro 0 (Sl aaB_1 aB_1 caB_1) aB_1] := H
   refine st (v := (Sl a44 r41 c45)) (rv_assign rfl) ?_
   refine w_end ?_
   refine q_then ?_
   refine c_seq ?_
   refine rg ?_
   refine st (v := (Sl a36 r33 c37)) (rv_move rfl) ?_
   refine st (v := (Sl a44 r41 c45)) (rv_move rfl) ?_
   obtain ⟨r49, hx50, h'⟩ := bind_some h
   clear h
   have h := h'; clear h'
   have hc51 := c_impl_LogBetween (aa_0 := a36) (ca_0 := c37) (ab_1 := a44) (cb_1 := c45) hx50
   have hle := Nat.le_trans hn0 H.size
   refine st_call (cx_lend (Loan.lendB hK39.lends (Loan.lendB hK47.lends Loan.nil)) hc51 (ent_f hc51.fn rfl) (show Hp S0 σ0 _ ([Ch.big K38, Ch.big K46] ++ ([] ++ [Ch.own n0 n0 (Sl a30 r27 c31) r27, Ch.big K16, Ch.big K24, Ch.ro 0 (Sl aaA_0 aA_0 caA_0) aA_0, Ch.ro 0 (Sl aaB_1 aB_1 caB_1) aB_1])) from (H.sel' [1, 0, 2, 3, 4, 5, 6] rfl rfl)) (by rintro _ _ _ ⟨_, _, _, rfl, rfl, hK55⟩; exact ⟨Dp.abSc hK55, trivial⟩)) wn ?_
   rintro _ σ56 ⟨_, ⟨a52, c53, K54, rfl, rfl, hK55⟩, H, -, -⟩
   replace H : Hp S0 σ0 σ56 [Ch.big K54, Ch.big K38, Ch.big K46, Ch.own n0 n0 (Sl a30 r27 c31) r27, Ch.big K16, Ch.big K24, Ch.ro 0 (Sl aaA_0 aA_0 caA_0) aA_0, Ch.ro 0 (Sl aaB_1 aB_1 caB_1) aB_1] := H
   clear hle
   replace H : Hp S0 σ0 σ56 [Ch.big K54, Ch.big K38, Ch.big K46, Ch.own n0 n0 (Sl a30 r27 c31) r27, Ch.big K16, Ch.big K24, Ch.ro 0 (Sl aaA_0 aA_0 caA_0) aA_0, Ch.ro 0 (Sl aaB_1 aB_1 caB_1) aB_1] := H
   replace H : Hp S0 σ0 σ56 [Ch.big K54, Ch.big K38, Ch.big K46, Ch.own n0 n0 (Sl a30 r27 c31) r27, Ch.ro 0 (Sl aaA_0 aA_0 caA_0) aA_0, Ch.ro 0 (Sl aaB_1 aB_1 caB_1) aB_1] := H.sel' [0, 1, 2, 3, 6, 7] rfl rfl
   refine st (v := (Sl a52 r49 c53)) (rv_assign rfl) ?_
   refine w_end ?_
   refine q_then ?_
   refine c_seq ?_
   refine c_seq ?_
   refine rg ?_
   refine st (v := (Sl a52 r49 c53)) (rv_move rfl) ?_
   refine st (v := (Sl a30 r27 c31)) (rv_move rfl) ?_
   obtain ⟨r57, hx58, h'⟩ := bind_some h
   clear h
   have h := h'; clear h'
   have hc59 := c_laws_eqEntryS (aa_0 := a52) (ca_0 := c53) (ab_1 := a30) (cb_1 := c31) hx58
   have hle := Nat.le_trans hn0 H.size
   refine st_call (cx_lend (Loan.lendB hK55.lends (Loan.lend Loan.nil)) hc59 (ent_f hc59.fn rfl) (show Hp S0 σ0 _ ([Ch.big K54, Ch.own n0 n0 (Sl a30 r27 c31) r27] ++ ([] ++ [Ch.big K38, Ch.big K46, Ch.ro 0 (Sl aaA_0 aA_0 caA_0) aA_0, Ch.ro 0 (Sl aaB_1 aB_1 caB_1) aB_1])) from (H.sel' [0, 3, 1, 2, 4, 5] rfl rfl)) (by rintro _ _ _ ⟨rfl, rfl⟩; exact trivial)) wn ?_
   rintro _ σ60 ⟨_, ⟨rfl, rfl⟩, H, -, -⟩
   replace H : Hp S0 σ0 σ60 [Ch.big K54, Ch.own n0 n0 (Sl a30 r27 c31) r27, Ch.big K38, Ch.big K46, Ch.ro 0 (Sl aaA_0 aA_0 caA_0) aA_0, Ch.ro 0 (Sl aaB_1 aB_1 caB_1) aB_1] := H
   clear hle
   replace H : Hp S0 σ0 σ60 [Ch.big K54, Ch.own n0 n0 (Sl a30 r27 c31) r27, Ch.big K38, Ch.big K46, Ch.ro 0 (Sl aaA_0 aA_0 caA_0) aA_0, Ch.ro 0 (Sl aaB_1 aB_1 caB_1) aB_1] := H
   refine st (v := (B (!r57))) (rv_not rfl) ?_
   refine w_end ?_
   refine q_then ?_
   refine cd_cond (!r57) rfl (fun hb61 => ?_) (fun hb61 => ?_)
   ·replace h := bif_t hb61 h
    refine c_seq ?_
    refine rg ?_
    refine st (v := (B false)) (rv_assign rfl) ?_
    refine w_end ?_
    refine q_then ?_
    refine c_ret ?_
    refine q_then_r ?_
    obtain rfl := Option.some.inj h
    exact fin_ret (v := (B false)) (results_ok Try.results11 (res_tmp (v := (B false)) rfl res_nil) rfl) ⟨rfl, rfl⟩ (H.sel' [] rfl rfl)
   ·replace h := bif_f hb61 h
    refine c_skip ?_
    refine q_then ?_
    refine c_seq ?_
    refine c_seq ?_
    refine rg ?_
    refine st (v := (Sl a36 r33 c37)) (rv_move rfl) ?_
    refine st (v := (Sl aaA_0 aA_0 caA_0)) (rv_move rfl) ?_
    obtain ⟨r62, hx63, h'⟩ := bind_some h
    clear h
    have h := h'; clear h'
    have hc64 := c_laws_toItemS (aa_0 := aaA_0) (ca_0 := caA_0) hx63
    refine st_call (cx_call hc64 (ent_f hc64.fn rfl) hn0 (show Hp S0 σ0 _ ([Ch.ro 0 (Sl aaA_0 aA_0 caA_0) aA_0] ++ [Ch.big K54, Ch.own n0 n0 (Sl a30 r27 c31) r27, Ch.big K38, Ch.big K46, Ch.ro 0 (Sl aaA_0 aA_0 caA_0) aA_0, Ch.ro 0 (Sl aaB_1 aB_1 caB_1) aB_1]) from (H.sel' [4, 0, 1, 2, 3, 4, 5] rfl rfl))) wn ?_
    rintro _ σ69 ⟨_, ⟨a65, c66, K67, rfl, rfl, hK68⟩, H, -⟩
    replace H : Hp S0 σ0 σ69 [Ch.big K67, Ch.big K54, Ch.own n0 n0 (Sl a30 r27 c31) r27, Ch.big K38, Ch.big K46, Ch.ro 0 (Sl aaA_0 aA_0 caA_0) aA_0, Ch.ro 0 (Sl aaB_1 aB_1 caB_1) aB_1] := H
    obtain ⟨r70, hx71, h'⟩ := bind_some h
    clear h
    have h := h'; clear h'
    have hc72 := c_laws_eqItemS (aa_0 := a36) (ca_0 := c37) (ab_1 := a65) (cb_1 := c66) hx71
    have hle := Nat.le_trans hn0 H.size
    refine st_call (cx_lend (Loan.lendB hK39.lends (Loan.lendB hK68.lends Loan.nil)) hc72 (ent_f hc72.fn rfl) (show Hp S0 σ0 _ ([Ch.big K38, Ch.big K67] ++ ([] ++ [Ch.big K54, Ch.own n0 n0 (Sl a30 r27 c31) r27, Ch.big K46, Ch.ro 0 (Sl aaA_0 aA_0 caA_0) aA_0, Ch.ro 0 (Sl aaB_1 aB_1 caB_1) aB_1])) from (H.sel' [3, 0, 1, 2, 4, 5, 6] rfl rfl)) (by rintro _ _ _ ⟨rfl, rfl⟩; exact trivial)) wn ?_
    rintro _ σ73 ⟨_, ⟨rfl, rfl⟩, H, -, -⟩
    replace H : Hp S0 σ0 σ73 [Ch.big K38, Ch.big K67, Ch.big K54, Ch.own n0 n0 (Sl a30 r27 c31) r27, Ch.big K46, Ch.ro 0 (Sl aaA_0 aA_0 caA_0) aA_0, Ch.ro 0 (Sl aaB_1 aB_1 caB_1) aB_1] := H
    clear hle
    replace H : Hp S0 σ0 σ73 [Ch.big K38, Ch.big K67, Ch.big K54, Ch.own n0 n0 (Sl a30 r27 c31) r27, Ch.big K46, Ch.ro 0 (Sl aaA_0 aA_0 caA_0) aA_0, Ch.ro 0 (Sl aaB_1 aB_1 caB_1) aB_1] := H
    refine st (v := (B (!r70))) (rv_not rfl) ?_
    refine w_end ?_
    refine q_then ?_
    refine cd_cond (!r70) rfl (fun hb74 => ?_) (fun hb74 => ?_)
    ·replace h := bif_t hb74 h
     refine c_seq ?_
     refine rg ?_
     refine st (v := (B false)) (rv_assign rfl) ?_
     refine w_end ?_
     refine q_then ?_
     refine c_ret ?_
     refine q_then_r ?_
     obtain rfl := Option.some.inj h
     exact fin_ret (v := (B false)) (results_ok Try.results11 (res_tmp (v := (B false)) rfl res_nil) rfl) ⟨rfl, rfl⟩ (H.sel' [] rfl rfl)
    ·replace h := bif_f hb74 h
     refine c_skip ?_
     refine q_then ?_
     refine c_seq ?_
     refine c_seq ?_
     refine rg ?_
     refine st (v := (Sl a44 r41 c45)) (rv_move rfl) ?_
     refine st (v := (Sl aaB_1 aB_1 caB_1)) (rv_move rfl) ?_
     obtain ⟨r75, hx76, h'⟩ := bind_some h
     clear h
     have h := h'; clear h'
     have hc77 := c_laws_toItemS (aa_0 := aaB_1) (ca_0 := caB_1) hx76
     refine st_call (cx_call hc77 (ent_f hc77.fn rfl) hn0 (show Hp S0 σ0 _ ([Ch.ro 0 (Sl aaB_1 aB_1 caB_1) aB_1] ++ [Ch.big K38, Ch.big K67, Ch.big K54, Ch.own n0 n0 (Sl a30 r27 c31) r27, Ch.big K46, Ch.ro 0 (Sl aaA_0 aA_0 caA_0) aA_0, Ch.ro 0 (Sl aaB_1 aB_1 caB_1) aB_1]) from (H.sel' [6, 0, 1, 2, 3, 4, 5, 6] rfl rfl))) wn ?_
     rintro _ σ82 ⟨_, ⟨a78, c79, K80, rfl, rfl, hK81⟩, H, -⟩
     replace H : Hp S0 σ0 σ82 [Ch.big K80, Ch.big K38, Ch.big K67, Ch.big K54, Ch.own n0 n0 (Sl a30 r27 c31) r27, Ch.big K46, Ch.ro 0 (Sl aaA_0 aA_0 caA_0) aA_0, Ch.ro 0 (Sl aaB_1 aB_1 caB_1) aB_1] := H
     replace H : Hp S0 σ0 σ82 [Ch.big K80, Ch.big K38, Ch.big K54, Ch.own n0 n0 (Sl a30 r27 c31) r27, Ch.big K46, Ch.ro 0 (Sl aaA_0 aA_0 caA_0) aA_0, Ch.ro 0 (Sl aaB_1 aB_1 caB_1) aB_1] := H.sel' [0, 1, 3, 4, 5, 6, 7] rfl rfl
     obtain ⟨r83, hx84, h'⟩ := bind_some h
     clear h
     have h := h'; clear h'
     have hc85 := c_laws_eqItemS (aa_0 := a44) (ca_0 := c45) (ab_1 := a78) (cb_1 := c79) hx84
     have hle := Nat.le_trans hn0 H.size
     refine st_call (cx_lend (Loan.lendB hK47.lends (Loan.lendB hK81.lends Loan.nil)) hc85 (ent_f hc85.fn rfl) (show Hp S0 σ0 _ ([Ch.big K46, Ch.big K80] ++ ([] ++ [Ch.big K38, Ch.big K54, Ch.own n0 n0 (Sl a30 r27 c31) r27, Ch.ro 0 (Sl aaA_0 aA_0 caA_0) aA_0, Ch.ro 0 (Sl aaB_1 aB_1 caB_1) aB_1])) from (H.sel' [4, 0, 1, 2, 3, 5, 6] rfl rfl)) (by rintro _ _ _ ⟨rfl, rfl⟩; exact trivial)) wn ?_
     rintro _ σ86 ⟨_, ⟨rfl, rfl⟩, H, -, -⟩
     replace H : Hp S0 σ0 σ86 [Ch.big K46, Ch.big K80, Ch.big K38, Ch.big K54, Ch.own n0 n0 (Sl a30 r27 c31) r27, Ch.ro 0 (Sl aaA_0 aA_0 caA_0) aA_0, Ch.ro 0 (Sl aaB_1 aB_1 caB_1) aB_1] := H
     clear hle
     replace H : Hp S0 σ0 σ86 [Ch.big K46, Ch.big K80, Ch.big K38, Ch.big K54, Ch.own n0 n0 (Sl a30 r27 c31) r27, Ch.ro 0 (Sl aaA_0 aA_0 caA_0) aA_0, Ch.ro 0 (Sl aaB_1 aB_1 caB_1) aB_1] := H
     refine st (v := (B (!r83))) (rv_not rfl) ?_
     refine w_end ?_
     refine q_then ?_
     refine cd_cond (!r83) rfl (fun hb87 => ?_) (fun hb87 => ?_)
     ·replace h := bif_t hb87 h
      refine c_seq ?_
      refine rg ?_
      refine st (v := (B false)) (rv_assign rfl) ?_
      refine w_end ?_
      refine q_then ?_
      refine c_ret ?_
      refine q_then_r ?_
      obtain rfl := Option.some.inj h
      exact fin_ret (v := (B false)) (results_ok Try.results11 (res_tmp (v := (B false)) rfl res_nil) rfl) ⟨rfl, rfl⟩ (H.sel' [] rfl rfl)
     ·replace h := bif_f hb87 h
      refine c_skip ?_
      refine q_then ?_
      refine c_seq ?_
      refine rg ?_
      refine st (v := (I 1)) (rv_assign rfl) ?_
      refine w_end ?_
      refine q_then ?_
      refine c_seq ?_
      refine rg ?_
      refine st (v := (Sl a36 r33 c37)) (rv_move rfl) ?_
      refine st (v := (I 1)) (rv_move rfl) ?_
      obtain ⟨r88, hx89, h'⟩ := bind_some h
      clear h
      have h := h'; clear h'
      have hc90 := c_laws_markItemS (aa_0 := a36) (ca_0 := c37) (hK := hK39) hx89
      refine st_call (cx_call hc90 (ent_f hc90.fn rfl) hn0 (show Hp S0 σ0 _ ([Ch.big K38] ++ [Ch.big K46, Ch.big K80, Ch.big K54, Ch.own n0 n0 (Sl a30 r27 c31) r27, Ch.ro 0 (Sl aaA_0 aA_0 caA_0) aA_0, Ch.ro 0 (Sl aaB_1 aB_1 caB_1) aB_1]) from (H.sel' [2, 0, 1, 3, 4, 5, 6] rfl rfl))) wn ?_
      rintro _ σ91 ⟨_, ⟨rfl, rfl⟩, H, -⟩
      replace H : Hp S0 σ0 σ91 [Ch.big K46, Ch.big K80, Ch.big K54, Ch.own n0 n0 (Sl a30 r27 c31) r27, Ch.ro 0 (Sl aaA_0 aA_0 caA_0) aA_0, Ch.ro 0 (Sl aaB_1 aB_1 caB_1) aB_1] := H
      refine st (v := (I r88)) (rv_assign rfl) ?_
      refine w_end ?_
      refine q_then ?_
      refine c_seq ?_
      refine rg ?_
      refine st (v := (Sl a44 r41 c45)) (rv_move rfl) ?_
      refine st (v := (I r88)) (rv_move rfl) ?_
      obtain ⟨r92, hx93, h'⟩ := bind_some h
      clear h
      have h := h'; clear h'
      have hc94 := c_laws_markItemS (aa_0 := a44) (ca_0 := c45) (hK := hK47) hx93
      refine st_call (cx_call hc94 (ent_f hc94.fn rfl) hn0 (show Hp S0 σ0 _ ([Ch.big K46] ++ [Ch.big K80, Ch.big K54, Ch.own n0 n0 (Sl a30 r27 c31) r27, Ch.ro 0 (Sl aaA_0 aA_0 caA_0) aA_0, Ch.ro 0 (Sl aaB_1 aB_1 caB_1) aB_1]) from (H.sel' [0, 1, 2, 3, 4, 5] rfl rfl))) wn ?_
      rintro _ σ95 ⟨_, ⟨rfl, rfl⟩, H, -⟩
      replace H : Hp S0 σ0 σ95 [Ch.big K80, Ch.big K54, Ch.own n0 n0 (Sl a30 r27 c31) r27, Ch.ro 0 (Sl aaA_0 aA_0 caA_0) aA_0, Ch.ro 0 (Sl aaB_1 aB_1 caB_1) aB_1] := H
      refine st (v := (I r92)) (rv_assign rfl) ?_
      refine w_end ?_
      refine q_then ?_
      refine c_seq ?_
      refine c_seq ?_
      obtain ⟨o96, hj, h'⟩ := bind_some h
      clear h
      refine c_cut (fun e a w => e = .normal ∧ ∃ (ρ : Nat → Value) (σ : St), a = fr 92 (updL ρ [(0, (Sl aaA_0 aA_0 caA_0)), (1, (Sl aaB_1 aB_1 caB_1)), (6, (Sl a30 r27 c31)), (9, (Sl a52 r49 c53)), (63, (B o96))]) ∧ w = σ.w ∧ Hp S0 σ0 σ [Ch.ro 0 (Sl aaA_0 aA_0 caA_0) aA_0, Ch.ro 0 (Sl aaB_1 aB_1 caB_1) aB_1, Ch.own n0 n0 (Sl a30 r27 c31) r27, Ch.big K54]) ?_ ?_
      ·clear h'
       rename _ = some o96 => h
       refine rg ?_
       refine st (v := (I r92)) (rv_move rfl) ?_
       refine st (v := (B (decide (r92 < 0)))) (rv_lss (a := r92) (b := 0) rfl rfl) ?_
       refine st (v := (B (decide (r92 < 0)))) (rv_move rfl) ?_
       rcases Bool.eq_false_or_eq_true (decide (r92 < 0)) with hb97 | hb97
       ·replace h := bif_t hb97 h
        refine st_skip (congrArg some hb97) ?_
        refine st_skip (congrArg some hb97) ?_
        refine st_skip (congrArg some hb97) ?_
        refine st_skip (congrArg some hb97) ?_
        refine st (v := (B true)) (rv_pick_t (congrArg B hb97) rfl) ?_
        refine w_end ?_
        obtain rfl := Option.some.inj h
        exact ⟨rfl, _, σ95, fr_join ⟨rfl, rfl, rfl, rfl, rfl, trivial⟩, rfl, H.sel' [3, 4, 2, 1] rfl rfl⟩
       ·replace h := bif_f hb97 h
        refine st_g (v := (Sl a52 r49 c53)) (congrArg some hb97) (rv_move rfl) ?_
        refine st_g (v := (Sl a30 r27 c31)) (congrArg some hb97) (rv_move rfl) ?_
        obtain ⟨r98, hx99, h'⟩ := bind_some h
        clear h
        have h := h'; clear h'
        have hc100 := c_laws_eqEntryS (aa_0 := a52) (ca_0 := c53) (ab_1 := a30) (cb_1 := c31) hx99
        have hle := Nat.le_trans hn0 H.size
        refine st_call (cx_lend (Loan.lendB hK55.lends (Loan.lend Loan.nil)) hc100 (ent_f hc100.fn rfl) (show Hp S0 σ0 _ ([Ch.big K54, Ch.own n0 n0 (Sl a30 r27 c31) r27] ++ ([] ++ [Ch.big K80, Ch.ro 0 (Sl aaA_0 aA_0 caA_0) aA_0, Ch.ro 0 (Sl aaB_1 aB_1 caB_1) aB_1])) from (H.sel' [1, 2, 0, 3, 4] rfl rfl)) (by rintro _ _ _ ⟨rfl, rfl⟩; exact trivial)) (wanted_yes rfl (by exact (congrArg some hb97))) ?_
        rintro _ σ101 ⟨_, ⟨rfl, rfl⟩, H, -, -⟩
        replace H : Hp S0 σ0 σ101 [Ch.big K54, Ch.own n0 n0 (Sl a30 r27 c31) r27, Ch.big K80, Ch.ro 0 (Sl aaA_0 aA_0 caA_0) aA_0, Ch.ro 0 (Sl aaB_1 aB_1 caB_1) aB_1] := H
        clear hle
        replace H : Hp S0 σ0 σ101 [Ch.big K54, Ch.own n0 n0 (Sl a30 r27 c31) r27, Ch.big K80, Ch.ro 0 (Sl aaA_0 aA_0 caA_0) aA_0, Ch.ro 0 (Sl aaB_1 aB_1 caB_1) aB_1] := H
        refine st_g (v := (B (!r98))) (congrArg some hb97) (rv_not rfl) ?_
        refine st (v := (B (!r98))) (rv_pick_f (congrArg B hb97) rfl) ?_
        refine w_end ?_
        obtain rfl := Option.some.inj h
        exact ⟨rfl, _, σ101, fr_join ⟨rfl, rfl, rfl, rfl, rfl, trivial⟩, rfl, H.sel' [3, 4, 1, 0] rfl rfl⟩
      ·clear hj
       have h := h'
       clear h' H
       rintro e a w ⟨rfl, ρ, σ102, rfl, rfl, H⟩
       refine q_then ?_
       refine cd_cond o96 rfl (fun hb103 => ?_) (fun hb103 => ?_)
       ·replace h := bif_t hb103 h
        refine c_seq ?_
        refine rg ?_
        refine st (v := (B false)) (rv_assign rfl) ?_
        refine w_end ?_
        refine q_then ?_
        refine c_ret ?_
        refine q_then_r ?_
        obtain rfl := Option.some.inj h
        exact fin_ret (v := (B false)) (results_ok Try.results11 (res_tmp (v := (B false)) rfl res_nil) rfl) ⟨rfl, rfl⟩ (H.sel' [] rfl rfl)
       ·replace h := bif_f hb103 h
        refine c_skip ?_
        refine q_then ?_
        refine c_seq ?_
        refine rg ?_
        refine st (v := (I 1)) (rv_assign rfl) ?_
        refine w_end ?_
        refine q_then ?_
        refine c_seq ?_
        refine rg ?_
        refine st (v := (Sl a52 r49 c53)) (rv_move rfl) ?_
        refine st (v := (I 1)) (rv_move rfl) ?_
        obtain ⟨r104, hx105, h'⟩ := bind_some h
        clear h
        have h := h'; clear h'
        have hc106 := c_laws_markEntryS (aa_0 := a52) (ca_0 := c53) (hK := hK55) hx105
        refine st_call (cx_call hc106 (ent_f hc106.fn rfl) hn0 (show Hp S0 σ0 _ ([Ch.big K54] ++ [Ch.ro 0 (Sl aaA_0 aA_0 caA_0) aA_0, Ch.ro 0 (Sl aaB_1 aB_1 caB_1) aB_1, Ch.own n0 n0 (Sl a30 r27 c31) r27]) from (H.sel' [3, 0, 1, 2] rfl rfl))) wn ?_
        rintro _ σ108 ⟨_, ⟨rfl, rfl, hn107⟩, H, -⟩
        replace H : Hp S0 σ0 σ108 [Ch.ro 0 (Sl a52 r104.2 c53) r104.2, Ch.ro 0 (Sl aaA_0 aA_0 caA_0) aA_0, Ch.ro 0 (Sl aaB_1 aB_1 caB_1) aB_1, Ch.own n0 n0 (Sl a30 r27 c31) r27] := H
        have hsl : (Sl a52 r49 c53) = (Sl a52 r104.2 c53) := sl_len hn107.symm
        try rw [hsl]
        try rw [hsl] at H
        clear hsl
        refine st (v := (I r104.1)) (rv_assign rfl) ?_
        refine w_end ?_
        refine q_then ?_
        refine c_seq ?_
        refine rg ?_
        refine st (v := (I 1)) (rv_assign rfl) ?_
        refine w_end ?_
        refine q_then ?_
        refine c_seq ?_
        refine rg ?_
        refine st (v := (Sl a52 r104.2 c53)) (rv_move rfl) ?_
        refine st (v := (I 1)) (rv_move rfl) ?_
        obtain ⟨r109, hx110, h'⟩ := bind_some h
        clear h
        have h := h'; clear h'
        have hc111 := c_laws_heldEntryS (aa_0 := a52) (ca_0 := c53) hx110
        refine st_call (cx_call hc111 (ent_f hc111.fn rfl) hn0 (show Hp S0 σ0 _ ([Ch.ro 0 (Sl a52 r104.2 c53) r104.2] ++ [Ch.ro 0 (Sl a52 r104.2 c53) r104.2, Ch.ro 0 (Sl aaA_0 aA_0 caA_0) aA_0, Ch.ro 0 (Sl aaB_1 aB_1 caB_1) aB_1, Ch.own n0 n0 (Sl a30 r27 c31) r27]) from (H.sel' [0, 0, 1, 2, 3] rfl rfl))) wn ?_
        rintro _ σ112 ⟨_, ⟨rfl, rfl⟩, H, -⟩
        replace H : Hp S0 σ0 σ112 [Ch.ro 0 (Sl a52 r104.2 c53) r104.2, Ch.ro 0 (Sl aaA_0 aA_0 caA_0) aA_0, Ch.ro 0 (Sl aaB_1 aB_1 caB_1) aB_1, Ch.own n0 n0 (Sl a30 r27 c31) r27] := H
        refine st (v := (I r109)) (rv_assign rfl) ?_
        refine w_end ?_
        refine q_then ?_
        refine c_seq ?_
        refine c_seq ?_
        refine rg ?_
        refine st (v := (I r109)) (rv_move rfl) ?_
        refine st (v := (B (decide (r109 < 0)))) (rv_lss (a := r109) (b := 0) rfl rfl) ?_
        refine w_end ?_
        refine q_then ?_
        refine cd_cond (decide (r109 < 0)) rfl (fun hb113 => ?_) (fun hb113 => ?_)
        ·replace h := bif_t hb113 h
         refine c_seq ?_
         refine rg ?_
         refine st (v := (B false)) (rv_assign rfl) ?_
         refine w_end ?_
         refine q_then ?_
         refine c_ret ?_
         refine q_then_r ?_
         obtain rfl := Option.some.inj h
         exact fin_ret (v := (B false)) (results_ok Try.results11 (res_tmp (v := (B false)) rfl res_nil) rfl) ⟨rfl, rfl⟩ (H.sel' [] rfl rfl)
        ·replace h := bif_f hb113 h
         refine c_skip ?_
         refine q_then ?_
         refine c_seq ?_
         refine c_seq ?_
         refine rg ?_
         refine st (v := (I r109)) (rv_move rfl) ?_
         refine st (v := (I r104.1)) (rv_move rfl) ?_
         refine st (v := (B (r109 != r104.1))) (rv_neq (a := r109) (b := r104.1) rfl rfl) ?_
         refine w_end ?_
         refine q_then ?_
         refine cd_cond (r109 != r104.1) rfl (fun hb114 => ?_) (fun hb114 => ?_)
         ·replace h := bif_t hb114 h
          refine c_seq ?_
          refine rg ?_
          refine st (v := (B false)) (rv_assign rfl) ?_
          refine w_end ?_
          refine q_then ?_
          refine c_ret ?_
          refine q_then_r ?_
          obtain rfl := Option.some.inj h
          exact fin_ret (v := (B false)) (results_ok Try.results11 (res_tmp (v := (B false)) rfl res_nil) rfl) ⟨rfl, rfl⟩ (H.sel' [] rfl rfl)
         ·replace h := bif_f hb114 h
          refine c_skip ?_
          refine q_then ?_
          refine c_seq ?_
          refine rg ?_
          refine st (v := (Sl aaA_0 aA_0 caA_0)) (rv_move rfl) ?_
          obtain ⟨r115, hx116, h'⟩ := bind_some h
          clear h
          have h := h'; clear h'
          have hc117 := c_laws_toItemS (aa_0 := aaA_0) (ca_0 := caA_0) hx116
          refine st_call (cx_call hc117 (ent_f hc117.fn rfl) hn0 (show Hp S0 σ0 _ ([Ch.ro 0 (Sl aaA_0 aA_0 caA_0) aA_0] ++ [Ch.ro 0 (Sl a52 r104.2 c53) r104.2, Ch.ro 0 (Sl aaA_0 aA_0 caA_0) aA_0, Ch.ro 0 (Sl aaB_1 aB_1 caB_1) aB_1, Ch.own n0 n0 (Sl a30 r27 c31) r27]) from (H.sel' [1, 0, 1, 2, 3] rfl rfl))) wn ?_
          rintro _ σ122 ⟨_, ⟨a118, c119, K120, rfl, rfl, hK121⟩, H, -⟩
          replace H : Hp S0 σ0 σ122 [Ch.big K120, Ch.ro 0 (Sl a52 r104.2 c53) r104.2, Ch.ro 0 (Sl aaA_0 aA_0 caA_0) aA_0, Ch.ro 0 (Sl aaB_1 aB_1 caB_1) aB_1, Ch.own n0 n0 (Sl a30 r27 c31) r27] := H
          refine st (v := (Sl aaB_1 aB_1 caB_1)) (rv_move rfl) ?_
          obtain ⟨r123, hx124, h'⟩ := bind_some h
          clear h
          have h := h'; clear h'
          have hc125 := c_laws_toItemS (aa_0 := aaB_1) (ca_0 := caB_1) hx124
          refine st_call (cx_call hc125 (ent_f hc125.fn rfl) hn0 (show Hp S0 σ0 _ ([Ch.ro 0 (Sl aaB_1 aB_1 caB_1) aB_1] ++ [Ch.big K120, Ch.ro 0 (Sl a52 r104.2 c53) r104.2, Ch.ro 0 (Sl aaA_0 aA_0 caA_0) aA_0, Ch.ro 0 (Sl aaB_1 aB_1 caB_1) aB_1, Ch.own n0 n0 (Sl a30 r27 c31) r27]) from (H.sel' [3, 0, 1, 2, 3, 4] rfl rfl))) wn ?_
          rintro _ σ130 ⟨_, ⟨a126, c127, K128, rfl, rfl, hK129⟩, H, -⟩
          replace H : Hp S0 σ0 σ130 [Ch.big K128, Ch.big K120, Ch.ro 0 (Sl a52 r104.2 c53) r104.2, Ch.ro 0 (Sl aaA_0 aA_0 caA_0) aA_0, Ch.ro 0 (Sl aaB_1 aB_1 caB_1) aB_1, Ch.own n0 n0 (Sl a30 r27 c31) r27] := H
          obtain ⟨r131, hx132, h'⟩ := bind_some h
          clear h
          have h := h'; clear h'
          have hc133 := c_impl_LogBetween (aa_0 := a118) (ca_0 := c119) (ab_1 := a126) (cb_1 := c127) hx132
          have hle := Nat.le_trans hn0 H.size
          refine st_call (cx_lend (Loan.lendB hK121.lends (Loan.lendB hK129.lends Loan.nil)) hc133 (ent_f hc133.fn rfl) (show Hp S0 σ0 _ ([Ch.big K120, Ch.big K128] ++ ([] ++ [Ch.ro 0 (Sl a52 r104.2 c53) r104.2, Ch.ro 0 (Sl aaA_0 aA_0 caA_0) aA_0, Ch.ro 0 (Sl aaB_1 aB_1 caB_1) aB_1, Ch.own n0 n0 (Sl a30 r27 c31) r27])) from (H.sel' [1, 0, 2, 3, 4, 5] rfl rfl)) (by rintro _ _ _ ⟨_, _, _, rfl, rfl, hK137⟩; exact ⟨Dp.abSc hK137, trivial⟩)) wn ?_
          rintro _ σ138 ⟨_, ⟨a134, c135, K136, rfl, rfl, hK137⟩, H, -, -⟩
          replace H : Hp S0 σ0 σ138 [Ch.big K136, Ch.big K120, Ch.big K128, Ch.ro 0 (Sl a52 r104.2 c53) r104.2, Ch.ro 0 (Sl aaA_0 aA_0 caA_0) aA_0, Ch.ro 0 (Sl aaB_1 aB_1 caB_1) aB_1, Ch.own n0 n0 (Sl a30 r27 c31) r27] := H
          clear hle
          replace H : Hp S0 σ0 σ138 [Ch.big K136, Ch.big K120, Ch.big K128, Ch.ro 0 (Sl a52 r104.2 c53) r104.2, Ch.ro 0 (Sl aaA_0 aA_0 caA_0) aA_0, Ch.ro 0 (Sl aaB_1 aB_1 caB_1) aB_1, Ch.own n0 n0 (Sl a30 r27 c31) r27] := H
          refine st (v := (Sl a134 r131 c135)) (rv_assign rfl) ?_
          refine w_end ?_
          refine q_then ?_
          refine c_seq ?_
          refine c_seq ?_
          refine rg ?_
          refine st (v := (Sl a134 r131 c135)) (rv_move rfl) ?_
          refine st (v := (Sl a30 r27 c31)) (rv_move rfl) ?_
          obtain ⟨σ139, hw140, H, -⟩ := H.pub 6 rfl (Nat.le_refl _)
          rw [← hw140]; clear hw140
          replace H := H.roLow 0 0 rfl (Nat.zero_le _)
          obtain ⟨r141, hx142, h'⟩ := bind_some h
          clear h
          have h := h'; clear h'
          have hc143 := c_laws_eqEntryS (aa_0 := a134) (ca_0 := c135) (ab_1 := a30) (cb_1 := c31) hx142
          have hle := Nat.le_trans hn0 H.size
          refine st_call (cx_lend (Loan.lendB hK137.lends (Loan.same Loan.nil)) hc143 (ent_f hc143.fn rfl) (show Hp S0 σ0 _ ([Ch.big K136] ++ ([Ch.ro 0 (Sl a30 r27 c31) r27] ++ [Ch.ro 0 (Sl a30 r27 c31) r27, Ch.ro n0 (Sl a30 r27 c31) r27, Ch.big K120, Ch.big K128, Ch.ro 0 (Sl a52 r104.2 c53) r104.2, Ch.ro 0 (Sl aaA_0 aA_0 caA_0) aA_0, Ch.ro 0 (Sl aaB_1 aB_1 caB_1) aB_1])) from (H.sel' [2, 0, 0, 1, 3, 4, 5, 6, 7] rfl rfl)) (by rintro _ _ _ ⟨rfl, rfl⟩; exact trivial)) wn ?_
          rintro _ σ144 ⟨_, ⟨rfl, rfl⟩, H, -, -⟩
          replace H : Hp S0 σ0 σ144 [Ch.big K136, Ch.ro 0 (Sl a30 r27 c31) r27, Ch.ro n0 (Sl a30 r27 c31) r27, Ch.big K120, Ch.big K128, Ch.ro 0 (Sl a52 r104.2 c53) r104.2, Ch.ro 0 (Sl aaA_0 aA_0 caA_0) aA_0, Ch.ro 0 (Sl aaB_1 aB_1 caB_1) aB_1] := H
          clear hle
          replace H : Hp S0 σ0 σ144 [Ch.big K136, Ch.ro 0 (Sl a30 r27 c31) r27, Ch.ro n0 (Sl a30 r27 c31) r27, Ch.big K120, Ch.big K128, Ch.ro 0 (Sl a52 r104.2 c53) r104.2, Ch.ro 0 (Sl aaA_0 aA_0 caA_0) aA_0, Ch.ro 0 (Sl aaB_1 aB_1 caB_1) aB_1] := H
          replace H : Hp S0 σ0 σ144 [Ch.ro 0 (Sl a52 r104.2 c53) r104.2] := H.sel' [5] rfl rfl
          refine st (v := (B (!r141))) (rv_not rfl) ?_
          refine w_end ?_
          refine q_then ?_
          refine cd_cond (!r141) rfl (fun hb145 => ?_) (fun hb145 => ?_)
          ·replace h := bif_t hb145 h
           refine c_seq ?_
           refine rg ?_
           refine st (v := (B false)) (rv_assign rfl) ?_
           refine w_end ?_
           refine q_then ?_
           refine c_ret ?_
           refine q_then_r ?_
           obtain rfl := Option.some.inj h
           exact fin_ret (v := (B false)) (results_ok Try.results11 (res_tmp (v := (B false)) rfl res_nil) rfl) ⟨rfl, rfl⟩ (H.sel' [] rfl rfl)
          ·replace h := bif_f hb145 h
           refine c_skip ?_
           refine q_then ?_
           refine c_seq ?_
           refine rg ?_
           refine st (v := (I 1)) (rv_assign rfl) ?_
           refine w_end ?_
           refine q_then ?_
           refine c_seq ?_
           refine rg ?_
           refine st (v := (Sl a52 r104.2 c53)) (rv_move rfl) ?_
           refine st (v := (I 1)) (rv_move rfl) ?_
           obtain ⟨r146, hx147, h'⟩ := bind_some h
           clear h
           have h := h'; clear h'
           have hc148 := c_laws_heldEntryS (aa_0 := a52) (ca_0 := c53) hx147
           refine st_call (cx_call hc148 (ent_f hc148.fn rfl) hn0 (show Hp S0 σ0 _ ([Ch.ro 0 (Sl a52 r104.2 c53) r104.2] ++ [Ch.ro 0 (Sl a52 r104.2 c53) r104.2]) from (H.sel' [0, 0] rfl rfl))) wn ?_
           rintro _ σ149 ⟨_, ⟨rfl, rfl⟩, H, -⟩
           replace H : Hp S0 σ0 σ149 [Ch.ro 0 (Sl a52 r104.2 c53) r104.2] := H
           refine st (v := (I r146)) (rv_assign rfl) ?_
           refine w_end ?_
           refine q_then ?_
           refine c_seq ?_
           refine c_seq ?_
           refine rg ?_
           refine st (v := (I r146)) (rv_move rfl) ?_
           refine st (v := (B (decide (r146 < 0)))) (rv_lss (a := r146) (b := 0) rfl rfl) ?_
           refine w_end ?_
           refine q_then ?_
           refine cd_cond (decide (r146 < 0)) rfl (fun hb150 => ?_) (fun hb150 => ?_)
           ·replace h := bif_t hb150 h
            refine c_seq ?_
            refine rg ?_
            refine st (v := (B false)) (rv_assign rfl) ?_
            refine w_end ?_
            refine q_then ?_
            refine c_ret ?_
            refine q_then_r ?_
            obtain rfl := Option.some.inj h
            exact fin_ret (v := (B false)) (results_ok Try.results11 (res_tmp (v := (B false)) rfl res_nil) rfl) ⟨rfl, rfl⟩ (H.sel' [] rfl rfl)
           ·replace h := bif_f hb150 h
            refine c_skip ?_
            refine q_then ?_
            refine c_seq ?_
            refine c_seq ?_
            refine rg ?_
            refine st (v := (I r146)) (rv_move rfl) ?_
            refine st (v := (I r104.1)) (rv_move rfl) ?_
            refine st (v := (B (r146 != r104.1))) (rv_neq (a := r146) (b := r104.1) rfl rfl) ?_
            refine w_end ?_
            refine q_then ?_
            refine cd_cond (r146 != r104.1) rfl (fun hb151 => ?_) (fun hb151 => ?_)
            ·replace h := bif_t hb151 h
             refine c_seq ?_
             refine rg ?_
             refine st (v := (B false)) (rv_assign rfl) ?_
             refine w_end ?_
             refine q_then ?_
             refine c_ret ?_
             refine q_then_r ?_
             obtain rfl := Option.some.inj h
             exact fin_ret (v := (B false)) (results_ok Try.results11 (res_tmp (v := (B false)) rfl res_nil) rfl) ⟨rfl, rfl⟩ (H.sel' [] rfl rfl)
            ·replace h := bif_f hb151 h
             refine c_skip ?_
             refine q_then ?_
             refine c_seq ?_
             refine rg ?_
             refine st (v := (B true)) (rv_assign rfl) ?_
             refine w_end ?_
             refine q_then ?_
             refine c_ret ?_
             obtain rfl := Option.some.inj h
             exact fin_ret (v := (B true)) (results_ok Try.results11 (res_tmp (v := (B true)) rfl res_nil) rfl) ⟨rfl, rfl⟩ (H.sel' [] rfl rfl)

end Go.Vs
