/- The functions compute what their models say. -/
import Derived.Test.YtnkflplbeagljacKExactFuseRanksC2
set_option linter.unusedVariables false
set_option linter.unusedSimpArgs false
set_option maxRecDepth 20000
namespace Go.Vs
open Go Go.Proofs
attribute [local irreducible] Code.wp Code.wpIn wpList wpListIn wpQuiet Calls CallsIn

theorem c_laws_markIntS {a_0 : List Int} {k_1 : Int} {aa_0 : Option Addr} {ca_0 : Nat} {r : Int × (List Int)} (h : M.laws_markIntS a_0 k_1 = some r) :
    Cal2 Try.prog 28 [(Sl aa_0 a_0 ca_0), (I k_1)] [Ch.own 0 0 (Sl aa_0 a_0 ca_0) a_0] (fun n0 v L => v = (I r.1) ∧ L = [Ch.own 0 0 (Sl aa_0 r.2 ca_0) r.2] ∧ r.2.length = a_0.length) := by
 refine cal2 (n := 19) Try.func28 rfl rfl rfl rfl ?_
 intro S0 σ0 n0 hn0 H
 unfold M.laws_markIntS at h
 refine c_seq ?_
 refine rg ?_
 refine st (v := (I 0)) (rv_assign rfl) ?_
 refine w_end ?_
 refine q_then ?_
 refine c_seq ?_
 refine c_seq ?_
 refine rg ?_
 refine st (v := (I 0)) (rv_assign rfl) ?_
 refine w_end ?_
 refine q_then ?_
 obtain ⟨o1, hj, h'⟩ := bind_some h
 clear h
 refine c_cut (fun e a w => e = .normal ∧ ∃ (ρ : Nat → Value) (σ : St), a = fr 19 (updL ρ [(0, (Sl aa_0 o1.1 ca_0)), (1, (I o1.2))]) ∧ w = σ.w ∧ Hp S0 σ0 σ [Ch.own 0 0 (Sl aa_0 o1.1 ca_0) o1.1] ∧ o1.1.length = a_0.length) ?_ ?_
 ·clear h'
  rename _ = some o1 => h
  refine c_blk ?_
  refine wp_loopM _ h (fun s2 a w => ∃ (ρ : Nat → Value) (σ : St), a = fr 19 (updL ρ [(0, (Sl aa_0 s2.1 ca_0)), (1, (I s2.2.1)), (5, (I s2.2.2))]) ∧ w = σ.w ∧ Hp S0 σ0 σ [Ch.own 0 0 (Sl aa_0 s2.1 ca_0) s2.1] ∧ s2.1.length = a_0.length) ⟨_, σ0, fr_join ⟨rfl, rfl, rfl, trivial⟩, rfl, H.sel' [0] rfl rfl, rfl⟩ ?_
  clear h H
  rintro s2 a w o ⟨ρ, σ3, rfl, rfl, H, hn4⟩ h hres
  refine c_seq ?_
  refine c_seq ?_
  refine rg ?_
  refine st (v := (I s2.2.2)) (rv_move rfl) ?_
  refine st (v := (Sl aa_0 s2.1 ca_0)) (rv_move rfl) ?_
  refine st (v := (I (s2.1.length : Int))) (rv_len Try.underlying37 rfl) ?_
  refine st (v := (B (decide (s2.2.2 < (s2.1.length : Int))))) (rv_lss (a := s2.2.2) (b := (s2.1.length : Int)) rfl rfl) ?_
  refine w_end ?_
  refine q_then ?_
  refine cd_cond (decide (s2.2.2 < (s2.1.length : Int))) rfl (fun hb5 => ?_) (fun hb5 => ?_)
  ·replace h := bif_t hb5 h
   refine c_skip ?_
   refine q_then ?_
   refine c_seq ?_
   refine c_blk ?_
   refine c_seq ?_
   refine rg ?_
   refine st (v := (Sl aa_0 s2.1 ca_0)) (rv_move rfl) ?_
   refine st (v := (I s2.2.2)) (rv_move rfl) ?_
   refine st (v := (I s2.2.1)) (rv_move rfl) ?_
   obtain ⟨x6, hx7, h'⟩ := bind_some h
   clear h
   have h := h'; clear h'
   obtain ⟨b9, o10, hi8, -⟩ := (H.own 0 rfl).ix hx7
   refine st (v := (pt b9 o10)) (rv_ix Try.underlying37 ti3 rfl rfl hi8) ?_
   refine st_exS (ex_store_own (e' := s2.2.1) (vs := [(I s2.2.1)]) (k := 0) H (i := 0) rfl ti3 hx7 hi8 rfl rfl rfl rfl rfl (Nat.le_of_ble_eq_true rfl) (by simp [plain]) (by rintro _ rfl; exact rfl)) wn ?_
   rintro σ11 ⟨H, -⟩
   have hsl : (Sl aa_0 s2.1 ca_0) = (Sl aa_0 (s2.1.set s2.2.2.toNat s2.2.1) ca_0) := sl_len List.length_set.symm
   rw [hsl]; rw [hsl] at H; clear hsl
   refine w_end ?_
   refine q_then ?_
   refine rg ?_
   refine st (v := (I s2.2.1)) (rv_move rfl) ?_
   refine st (v := (I (w64 (s2.2.1 + 1)))) (rv_add (a := s2.2.1) (b := 1) rfl rfl) ?_
   refine st (v := (I (w64 (s2.2.1 + 1)))) (rv_assign rfl) ?_
   refine w_end ?_
   refine q_blk ?_
   refine q_then ?_
   refine rg ?_
   refine st (v := (I s2.2.2)) (rv_move rfl) ?_
   refine st (v := (I (w64 (s2.2.2 + 1)))) (rv_add (a := s2.2.2) (b := 1) rfl rfl) ?_
   refine st (v := (I (w64 (s2.2.2 + 1)))) (rv_assign rfl) ?_
   refine w_end ?_
   refine q_then ?_
   obtain rfl := Option.some.inj h
   exact ⟨_, rfl, _, σ11, fr_join ⟨rfl, rfl, rfl, trivial⟩, rfl, H.sel' [0] rfl rfl, (List.length_set.trans hn4)⟩
  ·replace h := bif_f hb5 h
   refine c_exit ?_
   refine q_then_x ?_
   refine q_then_x ?_
   refine q_blk_hit ?_
   obtain rfl := Option.some.inj h
   obtain rfl := hres _ rfl
   exact ⟨rfl, _, σ3, fr_join ⟨rfl, rfl, trivial⟩, rfl, H.sel' [0] rfl rfl, hn4⟩
 ·clear hj
  have h := h'
  clear h' H
  rintro e a w ⟨rfl, ρ, σ12, rfl, rfl, H, hn13⟩
  refine q_then ?_
  refine c_seq ?_
  refine rg ?_
  refine st (v := (I o1.2)) (rv_move rfl) ?_
  refine st (v := (I o1.2)) (rv_assign rfl) ?_
  refine w_end ?_
  refine q_then ?_
  refine c_ret ?_
  obtain rfl := Option.some.inj h
  exact fin_ret (v := (I o1.2)) (results_ok Try.results28 (res_tmp (v := (I o1.2)) rfl res_nil) rfl) ⟨rfl, rfl, hn13⟩ (H.sel' [0] rfl rfl)

theorem c_laws_heldIntS {a_0 : List Int} {k_1 : Int} {aa_0 : Option Addr} {ca_0 : Nat} {r : Int} (h : M.laws_heldIntS a_0 k_1 = some r) :
    Cal2 Try.prog 29 [(Sl aa_0 a_0 ca_0), (I k_1)] [Ch.ro 0 (Sl aa_0 a_0 ca_0) a_0] (fun n0 v L => v = (I r) ∧ L = []) := by
 refine cal2 (n := 21) Try.func29 rfl rfl rfl rfl ?_
 intro S0 σ0 n0 hn0 H
 unfold M.laws_heldIntS at h
 refine c_seq ?_
 refine rg ?_
 refine st (v := (I 0)) (rv_assign rfl) ?_
 refine w_end ?_
 refine q_then ?_
 refine c_seq ?_
 refine c_seq ?_
 refine rg ?_
 refine st (v := (I 0)) (rv_assign rfl) ?_
 refine w_end ?_
 refine q_then ?_
 obtain ⟨o1, hj, h'⟩ := bind_some h
 clear h
 refine c_cut (fun e a w => (∃ t, o1 = (.inl t) ∧ e = .normal ∧ ∃ (ρ : Nat → Value) (σ : St), a = fr 21 (updL ρ [(1, (I t))]) ∧ w = σ.w ∧ Hp S0 σ0 σ []) ∨ (∃ t, o1 = (.inr t) ∧ e = .ret ∧ ∃ (ρ : Nat → Value) (σ : St), a = fr 21 (updL ρ [(4, (I t))]) ∧ w = σ.w ∧ Hp S0 σ0 σ [])) ?_ ?_
 ·clear h'
  rename _ = some o1 => h
  refine c_blk ?_
  refine wp_loopM _ h (fun s2 a w => ∃ (ρ : Nat → Value) (σ : St), a = fr 21 (updL ρ [(0, (Sl aa_0 a_0 ca_0)), (1, (I s2.1)), (5, (I s2.2))]) ∧ w = σ.w ∧ Hp S0 σ0 σ [Ch.ro 0 (Sl aa_0 a_0 ca_0) a_0]) ⟨_, σ0, fr_join ⟨rfl, rfl, rfl, trivial⟩, rfl, H.sel' [0] rfl rfl⟩ ?_
  clear h H
  rintro s2 a w o ⟨ρ, σ3, rfl, rfl, H⟩ h hres
  refine c_seq ?_
  refine c_seq ?_
  refine rg ?_
  refine st (v := (I s2.2)) (rv_move rfl) ?_
  refine st (v := (Sl aa_0 a_0 ca_0)) (rv_move rfl) ?_
  refine st (v := (I (a_0.length : Int))) (rv_len Try.underlying37 rfl) ?_
  refine st (v := (B (decide (s2.2 < (a_0.length : Int))))) (rv_lss (a := s2.2) (b := (a_0.length : Int)) rfl rfl) ?_
  refine w_end ?_
  refine q_then ?_
  refine cd_cond (decide (s2.2 < (a_0.length : Int))) rfl (fun hb4 => ?_) (fun hb4 => ?_)
  ·replace h := bif_t hb4 h
   refine c_skip ?_
   refine q_then ?_
   refine c_seq ?_
   refine c_blk ?_
   refine c_seq ?_
   refine c_seq ?_
   refine rg ?_
   refine st (v := (Sl aa_0 a_0 ca_0)) (rv_move rfl) ?_
   refine st (v := (I s2.2)) (rv_move rfl) ?_
   obtain ⟨x5, hx6, h'⟩ := bind_some h
   clear h
   have h := h'; clear h'
   obtain ⟨b8, o9, hi7, -⟩ := (H.ro 0 rfl).ix hx6
   refine st (v := (pt b8 o9)) (rv_ix Try.underlying37 ti3 rfl rfl hi7) ?_
   have hc10 := ((H.ro 0 rfl).at hx6 hi7).int
   refine st (v := (I x5)) (rv_load1 Try.underlying3 rfl rfl hc10) ?_
   refine st (v := (I s2.1)) (rv_move rfl) ?_
   refine st (v := (B (x5 != s2.1))) (rv_neq (a := x5) (b := s2.1) rfl rfl) ?_
   refine w_end ?_
   refine q_then ?_
   refine cd_cond (x5 != s2.1) rfl (fun hb11 => ?_) (fun hb11 => ?_)
   ·replace h := bif_t hb11 h
    refine c_seq ?_
    refine rg ?_
    refine st (v := (I (-1))) (rv_assign rfl) ?_
    refine w_end ?_
    refine q_then ?_
    refine c_ret ?_
    refine q_then_r ?_
    refine q_blk_r ?_
    refine q_then_r ?_
    refine q_then_r ?_
    refine q_blk_r ?_
    obtain rfl := Option.some.inj h
    obtain rfl := hres _ rfl
    exact .inr (⟨_, rfl, rfl, _, σ3, fr_join ⟨rfl, trivial⟩, rfl, H.sel' [] rfl rfl⟩)
   ·replace h := bif_f hb11 h
    refine c_skip ?_
    refine q_then ?_
    refine rg ?_
    refine st (v := (I s2.1)) (rv_move rfl) ?_
    refine st (v := (I (w64 (s2.1 + 1)))) (rv_add (a := s2.1) (b := 1) rfl rfl) ?_
    refine st (v := (I (w64 (s2.1 + 1)))) (rv_assign rfl) ?_
    refine w_end ?_
    refine q_blk ?_
    refine q_then ?_
    refine rg ?_
    refine st (v := (I s2.2)) (rv_move rfl) ?_
    refine st (v := (I (w64 (s2.2 + 1)))) (rv_add (a := s2.2) (b := 1) rfl rfl) ?_
    refine st (v := (I (w64 (s2.2 + 1)))) (rv_assign rfl) ?_
    refine w_end ?_
    refine q_then ?_
    obtain rfl := Option.some.inj h
    exact ⟨_, rfl, _, σ3, fr_join ⟨rfl, rfl, rfl, trivial⟩, rfl, H.sel' [0] rfl rfl⟩
  ·replace h := bif_f hb4 h
   refine c_exit ?_
   refine q_then_x ?_
   refine q_then_x ?_
   refine q_blk_hit ?_
   obtain rfl := Option.some.inj h
   obtain rfl := hres _ rfl
   exact .inl ⟨_, rfl, rfl, _, σ3, fr_join ⟨rfl, trivial⟩, rfl, H.sel' [] rfl rfl⟩
 ·clear hj
  have h := h'
  clear h' H
  rintro e a w (⟨t12, rfl, rfl, ρ, σ13, rfl, rfl, H⟩ | ⟨t14, rfl, rfl, ρ, σ15, rfl, rfl, H⟩)
  ·replace h := selim_l h
   refine q_then ?_
   refine c_seq ?_
   refine rg ?_
   refine st (v := (I t12)) (rv_move rfl) ?_
   refine st (v := (I t12)) (rv_assign rfl) ?_
   refine w_end ?_
   refine q_then ?_
   refine c_ret ?_
   obtain rfl := Option.some.inj h
   exact fin_ret (v := (I t12)) (results_ok Try.results29 (res_tmp (v := (I t12)) rfl res_nil) rfl) ⟨rfl, rfl⟩ (H.sel' [] rfl rfl)
  ·replace h := selim_r h
   refine q_then_r ?_
   obtain rfl := Option.some.inj h
   exact fin_ret (v := (I t14)) (results_ok Try.results29 (res_tmp (v := (I t14)) rfl res_nil) rfl) ⟨rfl, rfl⟩ (H.sel' [] rfl rfl)

theorem c_laws_FnExactFuseRanks {aA_0 : List (Int × Int)} {aB_1 : List (Int × Int)} {aaA_0 : Option Addr} {caA_0 : Nat} {aaB_1 : Option Addr} {caB_1 : Nat} {r : Bool} (h : M.laws_FnExactFuseRanks aA_0 aB_1 = some r) :
    Cal2 Try.prog 7 [(Sl aaA_0 aA_0 caA_0), (Sl aaB_1 aB_1 caB_1)] [Ch.ro 0 (Sl aaA_0 aA_0 caA_0) aA_0, Ch.ro 0 (Sl aaB_1 aB_1 caB_1) aB_1] (fun n0 v L => v = (B r) ∧ L = []) := by
 refine cal2 (n := 92) Try.func7 rfl rfl rfl rfl ?_
 intro S0 σ0 n0 hn0 H
 unfold M.laws_FnExactFuseRanks at h
 refine c_seq ?_
 refine rg ?_
 refine st (v := (B false)) (rv_assign rfl) ?_
 refine w_end ?_
 refine q_then ?_
 refine c_seq ?_
 refine rg ?_
 refine st (v := (I 1048576)) (rv_assign rfl) ?_
 refine w_end ?_
 refine q_then ?_
 refine c_seq ?_
 refine rg ?_
 refine st (v := (Sl aaA_0 aA_0 caA_0)) (rv_move rfl) ?_
 refine st (v := (I 1048576)) (rv_move rfl) ?_
 obtain ⟨r1, hx2, h'⟩ := bind_some h
 clear h
 have h := h'; clear h'
 have hc3 := c_laws_szHitS (aa_0 := aaA_0) (ca_0 := caA_0) hx2
 refine st_call (cx_call hc3 (ent_f hc3.fn rfl) hn0 (show Hp S0 σ0 _ ([Ch.ro 0 (Sl aaA_0 aA_0 caA_0) aA_0] ++ [Ch.ro 0 (Sl aaA_0 aA_0 caA_0) aA_0, Ch.ro 0 (Sl aaB_1 aB_1 caB_1) aB_1]) from (H.sel' [0, 0, 1] rfl rfl))) wn ?_
 rintro _ σ4 ⟨_, ⟨rfl, rfl⟩, H, -⟩
 replace H : Hp S0 σ0 σ4 [Ch.ro 0 (Sl aaA_0 aA_0 caA_0) aA_0, Ch.ro 0 (Sl aaB_1 aB_1 caB_1) aB_1] := H
 refine st (v := (I r1)) (rv_assign rfl) ?_
 refine w_end ?_
 refine q_then ?_
 refine c_seq ?_
 refine c_seq ?_
 refine rg ?_
 refine st (v := (I r1)) (rv_move rfl) ?_
 refine st (v := (B (decide (r1 < 0)))) (rv_lss (a := r1) (b := 0) rfl rfl) ?_
 refine w_end ?_
 refine q_then ?_
 refine cd_cond (decide (r1 < 0)) rfl (fun hb5 => ?_) (fun hb5 => ?_)
 ·replace h := bif_t hb5 h
  refine c_seq ?_
  refine rg ?_
  refine st (v := (B true)) (rv_assign rfl) ?_
  refine w_end ?_
  refine q_then ?_
  refine c_ret ?_
  refine q_then_r ?_
  obtain rfl := Option.some.inj h
  exact fin_ret (v := (B true)) (results_ok Try.results7 (res_tmp (v := (B true)) rfl res_nil) rfl) ⟨rfl, rfl⟩ (H.sel' [] rfl rfl)
 ·replace h := bif_f hb5 h
  refine c_skip ?_
  refine q_then ?_
  refine c_seq ?_
  refine rg ?_
  refine st (v := (Sl aaB_1 aB_1 caB_1)) (rv_move rfl) ?_
  refine st (v := (I r1)) (rv_move rfl) ?_
  obtain ⟨r6, hx7, h'⟩ := bind_some h
  clear h
  have h := h'; clear h'
  have hc8 := c_laws_szHitS (aa_0 := aaB_1) (ca_0 := caB_1) hx7
  refine st_call (cx_call hc8 (ent_f hc8.fn rfl) hn0 (show Hp S0 σ0 _ ([Ch.ro 0 (Sl aaB_1 aB_1 caB_1) aB_1] ++ [Ch.ro 0 (Sl aaA_0 aA_0 caA_0) aA_0, Ch.ro 0 (Sl aaB_1 aB_1 caB_1) aB_1]) from (H.sel' [1, 0, 1] rfl rfl))) wn ?_
  rintro _ σ9 ⟨_, ⟨rfl, rfl⟩, H, -⟩
  replace H : Hp S0 σ0 σ9 [Ch.ro 0 (Sl aaA_0 aA_0 caA_0) aA_0, Ch.ro 0 (Sl aaB_1 aB_1 caB_1) aB_1] := H
  refine st (v := (I r6)) (rv_assign rfl) ?_
  refine w_end ?_
  refine q_then ?_
  refine c_seq ?_
  refine c_seq ?_
  refine rg ?_
  refine st (v := (I r6)) (rv_move rfl) ?_
  refine st (v := (B (decide (r6 < 0)))) (rv_lss (a := r6) (b := 0) rfl rfl) ?_
  refine w_end ?_
  refine q_then ?_
  refine cd_cond (decide (r6 < 0)) rfl (fun hb10 => ?_) (fun hb10 => ?_)
  ·replace h := bif_t hb10 h
   refine c_seq ?_
   refine rg ?_
   refine st (v := (B true)) (rv_assign rfl) ?_
   refine w_end ?_
   refine q_then ?_
   refine c_ret ?_
   refine q_then_r ?_
   obtain rfl := Option.some.inj h
   exact fin_ret (v := (B true)) (results_ok Try.results7 (res_tmp (v := (B true)) rfl res_nil) rfl) ⟨rfl, rfl⟩ (H.sel' [] rfl rfl)
  ·replace h := bif_f hb10 h
   refine c_skip ?_
   refine q_then ?_
   refine c_seq ?_
   refine rg ?_
   refine st (v := (Sl aaA_0 aA_0 caA_0)) (rv_move rfl) ?_
   obtain ⟨r11, hx12, h'⟩ := bind_some h
   clear h
   have h := h'; clear h'
   have hc13 := c_laws_toHitS (aa_0 := aaA_0) (ca_0 := caA_0) hx12
   refine st_call (cx_call hc13 (ent_f hc13.fn rfl) hn0 (show Hp S0 σ0 _ ([Ch.ro 0 (Sl aaA_0 aA_0 caA_0) aA_0] ++ [Ch.ro 0 (Sl aaA_0 aA_0 caA_0) aA_0, Ch.ro 0 (Sl aaB_1 aB_1 caB_1) aB_1]) from (H.sel' [0, 0, 1] rfl rfl))) wn ?_
   rintro _ σ17 ⟨_, ⟨a14, c15, rfl, rfl, ht16⟩, H, -⟩
   replace H : Hp S0 σ0 σ17 [Ch.own n0 n0 (Sl a14 r11 c15) r11, Ch.ro 0 (Sl aaA_0 aA_0 caA_0) aA_0, Ch.ro 0 (Sl aaB_1 aB_1 caB_1) aB_1] := H
   refine st (v := (Sl aaB_1 aB_1 caB_1)) (rv_move rfl) ?_
   obtain ⟨r18, hx19, h'⟩ := bind_some h
   clear h
   have h := h'; clear h'
   have hc20 := c_laws_toHitS (aa_0 := aaB_1) (ca_0 := caB_1) hx19
   refine st_call (cx_call hc20 (ent_f hc20.fn rfl) hn0 (show Hp S0 σ0 _ ([Ch.ro 0 (Sl aaB_1 aB_1 caB_1) aB_1] ++ [Ch.own n0 n0 (Sl a14 r11 c15) r11, Ch.ro 0 (Sl aaA_0 aA_0 caA_0) aA_0, Ch.ro 0 (Sl aaB_1 aB_1 caB_1) aB_1]) from (H.sel' [2, 0, 1, 2] rfl rfl))) wn ?_
   rintro _ σ24 ⟨_, ⟨a21, c22, rfl, rfl, ht23⟩, H, -⟩
   replace H : Hp S0 σ0 σ24 [Ch.own n0 n0 (Sl a21 r18 c22) r18, Ch.own n0 n0 (Sl a14 r11 c15) r11, Ch.ro 0 (Sl aaA_0 aA_0 caA_0) aA_0, Ch.ro 0 (Sl aaB_1 aB_1 caB_1) aB_1] := H
   obtain ⟨σ25, hw26, H, -⟩ := H.pub 1 rfl (Nat.le_refl _)
   rw [← hw26]; clear hw26
   obtain ⟨σ27, hw28, H, -⟩ := H.pub 1 rfl (Nat.le_refl _)
   rw [← hw28]; clear hw28
   replace H := H.roLow 1 0 rfl (Nat.zero_le _)
   replace H := H.roLow 1 0 rfl (Nat.zero_le _)
   obtain ⟨r29, hx30, h'⟩ := bind_some h
   clear h
   have h := h'; clear h'
   have hc31 := c_spec_FuseRanks (aa_0 := a14) (ca_0 := c15) (ab_1 := a21) (cb_1 := c22) hx30
   refine st_call (cx_call hc31 (ent_f hc31.fn rfl) hn0 (show Hp S0 σ0 _ ([Ch.ro 0 (Sl a14 r11 c15) r11, Ch.ro 0 (Sl a21 r18 c22) r18] ++ [Ch.ro 0 (Sl a21 r18 c22) r18, Ch.ro 0 (Sl a14 r11 c15) r11, Ch.ro n0 (Sl a21 r18 c22) r18, Ch.ro n0 (Sl a14 r11 c15) r11, Ch.ro 0 (Sl aaA_0 aA_0 caA_0) aA_0, Ch.ro 0 (Sl aaB_1 aB_1 caB_1) aB_1]) from (H.sel' [1, 0, 0, 1, 2, 3, 4, 5] rfl rfl))) wn ?_
   rintro _ σ34 ⟨_, ⟨a32, c33, rfl, rfl⟩, H, -⟩
   replace H : Hp S0 σ0 σ34 [Ch.own n0 n0 (Sl a32 r29 c33) r29, Ch.ro 0 (Sl a21 r18 c22) r18, Ch.ro 0 (Sl a14 r11 c15) r11, Ch.ro n0 (Sl a21 r18 c22) r18, Ch.ro n0 (Sl a14 r11 c15) r11, Ch.ro 0 (Sl aaA_0 aA_0 caA_0) aA_0, Ch.ro 0 (Sl aaB_1 aB_1 caB_1) aB_1] := H
   refine st (v := (Sl a32 r29 c33)) (rv_assign rfl) ?_
   refine w_end ?_
   refine q_then ?_
   refine c_seq ?_
   refine rg ?_
   refine st (v := (Sl aaA_0 aA_0 caA_0)) (rv_move rfl) ?_
   obtain ⟨r35, hx36, h'⟩ := bind_some h
   clear h
   have h := h'; clear h'
   have hc37 := c_laws_toHitS (aa_0 := aaA_0) (ca_0 := caA_0) hx36
   refine st_call (cx_call hc37 (ent_f hc37.fn rfl) hn0 (show Hp S0 σ0 _ ([Ch.ro 0 (Sl aaA_0 aA_0 caA_0) aA_0] ++ [Ch.own n0 n0 (Sl a32 r29 c33) r29, Ch.ro 0 (Sl a21 r18 c22) r18, Ch.ro 0 (Sl a14 r11 c15) r11, Ch.ro n0 (Sl a21 r18 c22) r18, Ch.ro n0 (Sl a14 r11 c15) r11, Ch.ro 0 (Sl aaA_0 aA_0 caA_0) aA_0, Ch.ro 0 (Sl aaB_1 aB_1 caB_1) aB_1]) from (H.sel' [5, 0, 1, 2, 3, 4, 5, 6] rfl rfl))) wn ?_
   rintro _ σ41 ⟨_, ⟨a38, c39, rfl, rfl, ht40⟩, H, -⟩
   replace H : Hp S0 σ0 σ41 [Ch.own n0 n0 (Sl a38 r35 c39) r35, Ch.own n0 n0 (Sl a32 r29 c33) r29, Ch.ro 0 (Sl a21 r18 c22) r18, Ch.ro 0 (Sl a14 r11 c15) r11, Ch.ro n0 (Sl a21 r18 c22) r18, Ch.ro n0 (Sl a14 r11 c15) r11, Ch.ro 0 (Sl aaA_0 aA_0 caA_0) aA_0, Ch.ro 0 (Sl aaB_1 aB_1 caB_1) aB_1] := H
   replace H : Hp S0 σ0 σ41 [Ch.own n0 n0 (Sl a38 r35 c39) r35, Ch.own n0 n0 (Sl a32 r29 c33) r29, Ch.ro 0 (Sl aaA_0 aA_0 caA_0) aA_0, Ch.ro 0 (Sl aaB_1 aB_1 caB_1) aB_1] := H.sel' [0, 1, 6, 7] rfl rfl
   refine st (v := (Sl a38 r35 c39)) (rv_assign rfl) ?_
   refine w_end ?_
   refine q_then ?_
   refine c_seq ?_
   refine rg ?_
   refine st (v := (Sl aaB_1 aB_1 caB_1)) (rv_move rfl) ?_
   obtain ⟨r42, hx43, h'⟩ := bind_some h
   clear h
   have h := h'; clear h'
   have hc44 := c_laws_toHitS (aa_0 := aaB_1) (ca_0 := caB_1) hx43
   refine st_call (cx_call hc44 (ent_f hc44.fn rfl) hn0 (show Hp S0 σ0 _ ([Ch.ro 0 (Sl aaB_1 aB_1 caB_1) aB_1] ++ [Ch.own n0 n0 (Sl a38 r35 c39) r35, Ch.own n0 n0 (Sl a32 r29 c33) r29, Ch.ro 0 (Sl aaA_0 aA_0 caA_0) aA_0, Ch.ro 0 (Sl aaB_1 aB_1 caB_1) aB_1]) from (H.sel' [3, 0, 1, 2, 3] rfl rfl))) wn ?_
   rintro _ σ48 ⟨_, ⟨a45, c46, rfl, rfl, ht47⟩, H, -⟩
   replace H : Hp S0 σ0 σ48 [Ch.own n0 n0 (Sl a45 r42 c46) r42, Ch.own n0 n0 (Sl a38 r35 c39) r35, Ch.own n0 n0 (Sl a32 r29 c33) r29, Ch.ro 0 (Sl aaA_0 aA_0 caA_0) aA_0, Ch.ro 0 (Sl aaB_1 aB_1 caB_1) aB_1] := H
   refine st (v := (Sl a45 r42 c46)) (rv_assign rfl) ?_
   refine w_end ?_
   refine q_then ?_
   refine c_seq ?_
   refine rg ?_
   refine st (v := (Sl a38 r35 c39)) (rv_move rfl) ?_
   refine st (v := (Sl a45 r42 c46)) (rv_move rfl) ?_
   obtain ⟨r49, hx50, h'⟩ := bind_some h
   clear h
   have h := h'; clear h'
   have hc51 := c_impl_FuseRanks (aa_0 := a38) (ca_0 := c39) (ab_1 := a45) (cb_1 := c46) hx50
   have hle := Nat.le_trans hn0 H.size
   refine st_call (cx_lend (Loan.lend (Loan.lend Loan.nil)) hc51 (ent_f hc51.fn rfl) (show Hp S0 σ0 _ ([Ch.own n0 n0 (Sl a38 r35 c39) r35, Ch.own n0 n0 (Sl a45 r42 c46) r42] ++ ([] ++ [Ch.own n0 n0 (Sl a32 r29 c33) r29, Ch.ro 0 (Sl aaA_0 aA_0 caA_0) aA_0, Ch.ro 0 (Sl aaB_1 aB_1 caB_1) aB_1])) from (H.sel' [1, 0, 2, 3, 4] rfl rfl)) (by rintro _ _ _ ⟨_, _, rfl, rfl⟩; exact ⟨Ab.ownSc, trivial⟩)) wn ?_
   rintro _ σ54 ⟨_, ⟨a52, c53, rfl, rfl⟩, H, -, -⟩
   replace H : Hp S0 σ0 σ54 [Ch.own 0 σ48.size (Sl a52 r49 c53) r49, Ch.own n0 n0 (Sl a38 r35 c39) r35, Ch.own n0 n0 (Sl a45 r42 c46) r42, Ch.own n0 n0 (Sl a32 r29 c33) r29, Ch.ro 0 (Sl aaA_0 aA_0 caA_0) aA_0, Ch.ro 0 (Sl aaB_1 aB_1 caB_1) aB_1] := H
   replace H := H.ownLow 0 0 n0 rfl (Nat.le_refl _) hle
   clear hle
   replace H : Hp S0 σ0 σ54 [Ch.own 0 n0 (Sl a52 r49 c53) r49, Ch.own n0 n0 (Sl a38 r35 c39) r35, Ch.own n0 n0 (Sl a45 r42 c46) r42, Ch.own n0 n0 (Sl a32 r29 c33) r29, Ch.ro 0 (Sl aaA_0 aA_0 caA_0) aA_0, Ch.ro 0 (Sl aaB_1 aB_1 caB_1) aB_1] := H
   refine st (v := (Sl a52 r49 c53)) (rv_assign rfl) ?_
   refine w_end ?_
   refine q_then ?_
   refine c_seq ?_
   refine c_seq ?_
   refine rg ?_
   refine st (v := (Sl a52 r49 c53)) (rv_move rfl) ?_
   refine st (v := (Sl a32 r29 c33)) (rv_move rfl) ?_
   obtain ⟨r55, hx56, h'⟩ := bind_some h
   clear h
   have h := h'; clear h'
   have hc57 := c_laws_eqIntS (aa_0 := a52) (ca_0 := c53) (ab_1 := a32) (cb_1 := c33) hx56
   have hle := Nat.le_trans hn0 H.size
   refine st_call (cx_lend (Loan.lend (Loan.lend Loan.nil)) hc57 (ent_f hc57.fn rfl) (show Hp S0 σ0 _ ([Ch.own 0 n0 (Sl a52 r49 c53) r49, Ch.own n0 n0 (Sl a32 r29 c33) r29] ++ ([] ++ [Ch.own n0 n0 (Sl a38 r35 c39) r35, Ch.own n0 n0 (Sl a45 r42 c46) r42, Ch.ro 0 (Sl aaA_0 aA_0 caA_0) aA_0, Ch.ro 0 (Sl aaB_1 aB_1 caB_1) aB_1])) from (H.sel' [0, 3, 1, 2, 4, 5] rfl rfl)) (by rintro _ _ _ ⟨rfl, rfl⟩; exact trivial)) wn ?_
   rintro _ σ58 ⟨_, ⟨rfl, rfl⟩, H, -, -⟩
   replace H : Hp S0 σ0 σ58 [Ch.own 0 n0 (Sl a52 r49 c53) r49, Ch.own n0 n0 (Sl a32 r29 c33) r29, Ch.own n0 n0 (Sl a38 r35 c39) r35, Ch.own n0 n0 (Sl a45 r42 c46) r42, Ch.ro 0 (Sl aaA_0 aA_0 caA_0) aA_0, Ch.ro 0 (Sl aaB_1 aB_1 caB_1) aB_1] := H
   clear hle
   replace H : Hp S0 σ0 σ58 [Ch.own 0 n0 (Sl a52 r49 c53) r49, Ch.own n0 n0 (Sl a32 r29 c33) r29, Ch.own n0 n0 (Sl a38 r35 c39) r35, Ch.own n0 n0 (Sl a45 r42 c46) r42, Ch.ro 0 (Sl aaA_0 aA_0 caA_0) aA_0, Ch.ro 0 (Sl aaB_1 aB_1 caB_1) aB_1] := H
   refine st (v := (B (!r55))) (rv_not rfl) ?_
   refine w_end ?_
   refine q_then ?_
   refine cd_cond (!r55) rfl (fun hb59 => ?_) (fun hb59 => ?_)
   ·replace h := bif_t hb59 h
    refine c_seq ?_
    refine rg ?_
    refine st (v := (B false)) (rv_assign rfl) ?_
    refine w_end ?_
    refine q_then ?_
    refine c_ret ?_
    refine q_then_r ?_
    obtain rfl := Option.some.inj h
    exact fin_ret (v := (B false)) (results_ok Try.results7 (res_tmp (v := (B false)) rfl res_nil) rfl) ⟨rfl, rfl⟩ (H.sel' [] rfl rfl)
   ·replace h := bif_f hb59 h
    refine c_skip ?_
    refine q_then ?_
    refine c_seq ?_
    refine c_seq ?_
    refine rg ?_
    refine st (v := (Sl a38 r35 c39)) (rv_move rfl) ?_
    refine st (v := (Sl aaA_0 aA_0 caA_0)) (rv_move rfl) ?_
    obtain ⟨r60, hx61, h'⟩ := bind_some h
    clear h
    have h := h'; clear h'
    have hc62 := c_laws_toHitS (aa_0 := aaA_0) (ca_0 := caA_0) hx61
    refine st_call (cx_call hc62 (ent_f hc62.fn rfl) hn0 (show Hp S0 σ0 _ ([Ch.ro 0 (Sl aaA_0 aA_0 caA_0) aA_0] ++ [Ch.own 0 n0 (Sl a52 r49 c53) r49, Ch.own n0 n0 (Sl a32 r29 c33) r29, Ch.own n0 n0 (Sl a38 r35 c39) r35, Ch.own n0 n0 (Sl a45 r42 c46) r42, Ch.ro 0 (Sl aaA_0 aA_0 caA_0) aA_0, Ch.ro 0 (Sl aaB_1 aB_1 caB_1) aB_1]) from (H.sel' [4, 0, 1, 2, 3, 4, 5] rfl rfl))) wn ?_
    rintro _ σ66 ⟨_, ⟨a63, c64, rfl, rfl, ht65⟩, H, -⟩
    replace H : Hp S0 σ0 σ66 [Ch.own n0 n0 (Sl a63 r60 c64) r60, Ch.own 0 n0 (Sl a52 r49 c53) r49, Ch.own n0 n0 (Sl a32 r29 c33) r29, Ch.own n0 n0 (Sl a38 r35 c39) r35, Ch.own n0 n0 (Sl a45 r42 c46) r42, Ch.ro 0 (Sl aaA_0 aA_0 caA_0) aA_0, Ch.ro 0 (Sl aaB_1 aB_1 caB_1) aB_1] := H
    obtain ⟨σ67, hw68, H, -⟩ := H.pub 0 rfl (Nat.le_refl _)
    rw [← hw68]; clear hw68
    replace H := H.roLow 0 0 rfl (Nat.zero_le _)
    obtain ⟨r69, hx70, h'⟩ := bind_some h
    clear h
    have h := h'; clear h'
    have hc71 := c_laws_eqHitS (aa_0 := a38) (ca_0 := c39) (ab_1 := a63) (cb_1 := c64) hx70
    have hle := Nat.le_trans hn0 H.size
    refine st_call (cx_lend (Loan.lend (Loan.same Loan.nil)) hc71 (ent_f hc71.fn rfl) (show Hp S0 σ0 _ ([Ch.own n0 n0 (Sl a38 r35 c39) r35] ++ ([Ch.ro 0 (Sl a63 r60 c64) r60] ++ [Ch.ro 0 (Sl a63 r60 c64) r60, Ch.ro n0 (Sl a63 r60 c64) r60, Ch.own 0 n0 (Sl a52 r49 c53) r49, Ch.own n0 n0 (Sl a32 r29 c33) r29, Ch.own n0 n0 (Sl a45 r42 c46) r42, Ch.ro 0 (Sl aaA_0 aA_0 caA_0) aA_0, Ch.ro 0 (Sl aaB_1 aB_1 caB_1) aB_1])) from (H.sel' [4, 0, 0, 1, 2, 3, 5, 6, 7] rfl rfl)) (by rintro _ _ _ ⟨rfl, rfl⟩; exact trivial)) wn ?_
    rintro _ σ72 ⟨_, ⟨rfl, rfl⟩, H, -, -⟩
    replace H : Hp S0 σ0 σ72 [Ch.own n0 n0 (Sl a38 r35 c39) r35, Ch.ro 0 (Sl a63 r60 c64) r60, Ch.ro n0 (Sl a63 r60 c64) r60, Ch.own 0 n0 (Sl a52 r49 c53) r49, Ch.own n0 n0 (Sl a32 r29 c33) r29, Ch.own n0 n0 (Sl a45 r42 c46) r42, Ch.ro 0 (Sl aaA_0 aA_0 caA_0) aA_0, Ch.ro 0 (Sl aaB_1 aB_1 caB_1) aB_1] := H
    clear hle
    replace H : Hp S0 σ0 σ72 [Ch.own n0 n0 (Sl a38 r35 c39) r35, Ch.ro 0 (Sl a63 r60 c64) r60, Ch.ro n0 (Sl a63 r60 c64) r60, Ch.own 0 n0 (Sl a52 r49 c53) r49, Ch.own n0 n0 (Sl a32 r29 c33) r29, Ch.own n0 n0 (Sl a45 r42 c46) r42, Ch.ro 0 (Sl aaA_0 aA_0 caA_0) aA_0, Ch.ro 0 (Sl aaB_1 aB_1 caB_1) aB_1] := H
    replace H : Hp S0 σ0 σ72 [Ch.own n0 n0 (Sl a38 r35 c39) r35, Ch.own 0 n0 (Sl a52 r49 c53) r49, Ch.own n0 n0 (Sl a32 r29 c33) r29, Ch.own n0 n0 (Sl a45 r42 c46) r42, Ch.ro 0 (Sl aaA_0 aA_0 caA_0) aA_0, Ch.ro 0 (Sl aaB_1 aB_1 caB_1) aB_1] := H.sel' [0, 3, 4, 5, 6, 7] rfl rfl
    refine st (v := (B (!r69))) (rv_not rfl) ?_
    refine w_end ?_
    refine q_then ?_
    refine cd_cond (!r69) rfl (fun hb73 => ?_) (fun hb73 => ?_)
    ·replace h := bif_t hb73 h
     refine c_seq ?_
     refine rg ?_
     refine st (v := (B false)) (rv_assign rfl) ?_
     refine w_end ?_
     refine q_then ?_
     refine c_ret ?_
     refine q_then_r ?_
     obtain rfl := Option.some.inj h
     exact fin_ret (v := (B false)) (results_ok Try.results7 (res_tmp (v := (B false)) rfl res_nil) rfl) ⟨rfl, rfl⟩ (H.sel' [] rfl rfl)
    ·replace h := bif_f hb73 h
     refine c_skip ?_
     refine q_then ?_
     refine c_seq ?_
     refine c_seq ?_
     refine rg ?_
     refine st (v := (Sl a45 r42 c46)) (rv_move rfl) ?_
     refine st (v := (Sl aaB_1 aB_1 caB_1)) (rv_move rfl) ?_
     obtain ⟨r74, hx75, h'⟩ := bind_some h
     clear h
     have h := h'; clear h'
     have hc76 := c_laws_toHitS (aa_0 := aaB_1) (ca_0 := caB_1) hx75
     refine st_call (cx_call hc76 (ent_f hc76.fn rfl) hn0 (show Hp S0 σ0 _ ([Ch.ro 0 (Sl aaB_1 aB_1 caB_1) aB_1] ++ [Ch.own n0 n0 (Sl a38 r35 c39) r35, Ch.own 0 n0 (Sl a52 r49 c53) r49, Ch.own n0 n0 (Sl a32 r29 c33) r29, Ch.own n0 n0 (Sl a45 r42 c46) r42, Ch.ro 0 (Sl aaA_0 aA_0 caA_0) aA_0, Ch.ro 0 (Sl aaB_1 aB_1 caB_1) aB_1]) from (H.sel' [5, 0, 1, 2, 3, 4, 5] rfl rfl))) wn ?_
     rintro _ σ80 ⟨_, ⟨a77, c78, rfl, rfl, ht79⟩, H, -⟩
     replace H : Hp S0 σ0 σ80 [Ch.own n0 n0 (Sl a77 r74 c78) r74, Ch.own n0 n0 (Sl a38 r35 c39) r35, Ch.own 0 n0 (Sl a52 r49 c53) r49, Ch.own n0 n0 (Sl a32 r29 c33) r29, Ch.own n0 n0 (Sl a45 r42 c46) r42, Ch.ro 0 (Sl aaA_0 aA_0 caA_0) aA_0, Ch.ro 0 (Sl aaB_1 aB_1 caB_1) aB_1] := H
     obtain ⟨σ81, hw82, H, -⟩ := H.pub 0 rfl (Nat.le_refl _)
     rw [← hw82]; clear hw82
     replace H := H.roLow 0 0 rfl (Nat.zero_le _)
     obtain ⟨r83, hx84, h'⟩ := bind_some h
     clear h
     have h := h'; clear h'
     have hc85 := c_laws_eqHitS (aa_0 := a45) (ca_0 := c46) (ab_1 := a77) (cb_1 := c78) hx84
     have hle := Nat.le_trans hn0 H.size
     refine st_call (cx_lend (Loan.lend (Loan.same Loan.nil)) hc85 (ent_f hc85.fn rfl) (show Hp S0 σ0 _ ([Ch.own n0 n0 (Sl a45 r42 c46) r42] ++ ([Ch.ro 0 (Sl a77 r74 c78) r74] ++ [Ch.ro 0 (Sl a77 r74 c78) r74, Ch.ro n0 (Sl a77 r74 c78) r74, Ch.own n0 n0 (Sl a38 r35 c39) r35, Ch.own 0 n0 (Sl a52 r49 c53) r49, Ch.own n0 n0 (Sl a32 r29 c33) r29, Ch.ro 0 (Sl aaA_0 aA_0 caA_0) aA_0, Ch.ro 0 (Sl aaB_1 aB_1 caB_1) aB_1])) from (H.sel' [5, 0, 0, 1, 2, 3, 4, 6, 7] rfl rfl)) (by rintro _ _ _ ⟨rfl, rfl⟩; exact trivial)) wn ?_
     rintro _ σ86 ⟨_, ⟨rfl, rfl⟩, H, -, -⟩
     replace H : Hp S0 σ0 σ86 [Ch.own n0 n0 (Sl a45 r42 c46) r42, Ch.ro 0 (Sl a77 r74 c78) r74, Ch.ro n0 (Sl a77 r74 c78) r74, Ch.own n0 n0 (Sl a38 r35 c39) r35, Ch.own 0 n0 (Sl a52 r49 c53) r49, Ch.own n0 n0 (Sl a32 r29 c33) r29, Ch.ro 0 (Sl aaA_0 aA_0 caA_0) aA_0, Ch.ro 0 (Sl aaB_1 aB_1 caB_1) aB_1] := H
     clear hle
     replace H : Hp S0 σ0 σ86 [Ch.own n0 n0 (Sl a45 r42 c46) r42, Ch.ro 0 (Sl a77 r74 c78) r74, Ch.ro n0 (Sl a77 r74 c78) r74, Ch.own n0 n0 (Sl a38 r35 c39) r35, Ch.own 0 n0 (Sl a52 r49 c53) r49, Ch.own n0 n0 (Sl a32 r29 c33) r29, Ch.ro 0 (Sl aaA_0 aA_0 caA_0) aA_0, Ch.ro 0 (Sl aaB_1 aB_1 caB_1) aB_1] := H
     replace H : Hp S0 σ0 σ86 [Ch.own n0 n0 (Sl a45 r42 c46) r42, Ch.own n0 n0 (Sl a38 r35 c39) r35, Ch.own 0 n0 (Sl a52 r49 c53) r49, Ch.own n0 n0 (Sl a32 r29 c33) r29, Ch.ro 0 (Sl aaA_0 aA_0 caA_0) aA_0, Ch.ro 0 (Sl aaB_1 aB_1 caB_1) aB_1] := H.sel' [0, 3, 4, 5, 6, 7] rfl rfl
     refine st (v := (B (!r83))) (rv_not rfl) ?_
     refine w_end ?_
     refine q_then ?_
     refine cd_cond (!r83) rfl (fun hb87 => ?_) (fun hb87 => ?_)
     ·replace h := bif_t hb87 h
      refine c_seq ?_
      refine rg ?_
      refine st (v := (B false)) (rv_assign rfl) ?_
      refine w_end ?_
      refine q_then ?_
      refine c_ret ?_
      refine q_then_r ?_
      obtain rfl := Option.some.inj h
      exact fin_ret (v := (B false)) (results_ok Try.results7 (res_tmp (v := (B false)) rfl res_nil) rfl) ⟨rfl, rfl⟩ (H.sel' [] rfl rfl)
     ·replace h := bif_f hb87 h
      refine c_skip ?_
      refine q_then ?_
      refine c_seq ?_
      refine rg ?_
      refine st (v := (I 1)) (rv_assign rfl) ?_
      refine w_end ?_
      refine q_then ?_
      refine c_seq ?_
      refine rg ?_
      refine st (v := (Sl a38 r35 c39)) (rv_move rfl) ?_
      refine st (v := (I 1)) (rv_move rfl) ?_
      replace H := H.ownLow 1 0 0 rfl (Nat.zero_le _) (Nat.zero_le _)
      obtain ⟨r88, hx89, h'⟩ := bind_some h
      clear h
      have h := h'; clear h'
      have hc90 := c_laws_markHitS (aa_0 := a38) (ca_0 := c39) hx89
      refine st_call (cx_call hc90 (ent_f hc90.fn rfl) hn0 (show Hp S0 σ0 _ ([Ch.own 0 0 (Sl a38 r35 c39) r35] ++ [Ch.own n0 n0 (Sl a45 r42 c46) r42, Ch.own 0 n0 (Sl a52 r49 c53) r49, Ch.own n0 n0 (Sl a32 r29 c33) r29, Ch.ro 0 (Sl aaA_0 aA_0 caA_0) aA_0, Ch.ro 0 (Sl aaB_1 aB_1 caB_1) aB_1]) from (H.sel' [0, 1, 2, 3, 4, 5] rfl rfl))) wn ?_
      rintro _ σ92 ⟨_, ⟨rfl, rfl, hn91⟩, H, -⟩
      replace H : Hp S0 σ0 σ92 [Ch.own 0 0 (Sl a38 r88.2 c39) r88.2, Ch.own n0 n0 (Sl a45 r42 c46) r42, Ch.own 0 n0 (Sl a52 r49 c53) r49, Ch.own n0 n0 (Sl a32 r29 c33) r29, Ch.ro 0 (Sl aaA_0 aA_0 caA_0) aA_0, Ch.ro 0 (Sl aaB_1 aB_1 caB_1) aB_1] := H
      have hsl : (Sl a38 r35 c39) = (Sl a38 r88.2 c39) := sl_len hn91.symm
      try rw [hsl]
      try rw [hsl] at H
      clear hsl
      refine st (v := (I r88.1)) (rv_assign rfl) ?_
      refine w_end ?_
      refine q_then ?_
      refine c_seq ?_
      refine rg ?_
      refine st (v := (Sl a45 r42 c46)) (rv_move rfl) ?_
      refine st (v := (I r88.1)) (rv_move rfl) ?_
      replace H := H.ownLow 1 0 0 rfl (Nat.zero_le _) (Nat.zero_le _)
      obtain ⟨r93, hx94, h'⟩ := bind_some h
      clear h
      have h := h'; clear h'
      have hc95 := c_laws_markHitS (aa_0 := a45) (ca_0 := c46) hx94
      refine st_call (cx_call hc95 (ent_f hc95.fn rfl) hn0 (show Hp S0 σ0 _ ([Ch.own 0 0 (Sl a45 r42 c46) r42] ++ [Ch.own 0 0 (Sl a38 r88.2 c39) r88.2, Ch.own 0 n0 (Sl a52 r49 c53) r49, Ch.own n0 n0 (Sl a32 r29 c33) r29, Ch.ro 0 (Sl aaA_0 aA_0 caA_0) aA_0, Ch.ro 0 (Sl aaB_1 aB_1 caB_1) aB_1]) from (H.sel' [0, 1, 2, 3, 4, 5] rfl rfl))) wn ?_
      rintro _ σ97 ⟨_, ⟨rfl, rfl, hn96⟩, H, -⟩
      replace H : Hp S0 σ0 σ97 [Ch.own 0 0 (Sl a45 r93.2 c46) r93.2, Ch.own 0 0 (Sl a38 r88.2 c39) r88.2, Ch.own 0 n0 (Sl a52 r49 c53) r49, Ch.own n0 n0 (Sl a32 r29 c33) r29, Ch.ro 0 (Sl aaA_0 aA_0 caA_0) aA_0, Ch.ro 0 (Sl aaB_1 aB_1 caB_1) aB_1] := H
      have hsl : (Sl a45 r42 c46) = (Sl a45 r93.2 c46) := sl_len hn96.symm
      try rw [hsl]
      try rw [hsl] at H
      clear hsl
      refine st (v := (I r93.1)) (rv_assign rfl) ?_
      refine w_end ?_
      refine q_then ?_
      refine c_seq ?_
      refine c_seq ?_
      obtain ⟨o98, hj, h'⟩ := bind_some h
      clear h
      refine c_cut (fun e a w => e = .normal ∧ ∃ (ρ : Nat → Value) (σ : St), a = fr 92 (updL ρ [(0, (Sl aaA_0 aA_0 caA_0)), (1, (Sl aaB_1 aB_1 caB_1)), (6, (Sl a32 r29 c33)), (9, (Sl a52 r49 c53)), (63, (B o98))]) ∧ w = σ.w ∧ Hp S0 σ0 σ [Ch.ro 0 (Sl aaA_0 aA_0 caA_0) aA_0, Ch.ro 0 (Sl aaB_1 aB_1 caB_1) aB_1, Ch.own n0 n0 (Sl a32 r29 c33) r29, Ch.own 0 n0 (Sl a52 r49 c53) r49]) ?_ ?_
      ·clear h'
       rename _ = some o98 => h
       refine rg ?_
       refine st (v := (I r93.1)) (rv_move rfl) ?_
       refine st (v := (B (decide (r93.1 < 0)))) (rv_lss (a := r93.1) (b := 0) rfl rfl) ?_
       refine st (v := (B (decide (r93.1 < 0)))) (rv_move rfl) ?_
       rcases Bool.eq_false_or_eq_true (decide (r93.1 < 0)) with hb99 | hb99
       ·replace h := bif_t hb99 h
        refine st_skip (congrArg some hb99) ?_
        refine st_skip (congrArg some hb99) ?_
        refine st_skip (congrArg some hb99) ?_
        refine st_skip (congrArg some hb99) ?_
        refine st (v := (B true)) (rv_pick_t (congrArg B hb99) rfl) ?_
        refine w_end ?_
        obtain rfl := Option.some.inj h
        exact ⟨rfl, _, σ97, fr_join ⟨rfl, rfl, rfl, rfl, rfl, trivial⟩, rfl, H.sel' [4, 5, 3, 2] rfl rfl⟩
       ·replace h := bif_f hb99 h
        refine st_g (v := (Sl a52 r49 c53)) (congrArg some hb99) (rv_move rfl) ?_
        refine st_g (v := (Sl a32 r29 c33)) (congrArg some hb99) (rv_move rfl) ?_
        obtain ⟨r100, hx101, h'⟩ := bind_some h
        clear h
        have h := h'; clear h'
        have hc102 := c_laws_eqIntS (aa_0 := a52) (ca_0 := c53) (ab_1 := a32) (cb_1 := c33) hx101
        have hle := Nat.le_trans hn0 H.size
        refine st_call (cx_lend (Loan.lend (Loan.lend Loan.nil)) hc102 (ent_f hc102.fn rfl) (show Hp S0 σ0 _ ([Ch.own 0 n0 (Sl a52 r49 c53) r49, Ch.own n0 n0 (Sl a32 r29 c33) r29] ++ ([] ++ [Ch.own 0 0 (Sl a45 r93.2 c46) r93.2, Ch.own 0 0 (Sl a38 r88.2 c39) r88.2, Ch.ro 0 (Sl aaA_0 aA_0 caA_0) aA_0, Ch.ro 0 (Sl aaB_1 aB_1 caB_1) aB_1])) from (H.sel' [2, 3, 0, 1, 4, 5] rfl rfl)) (by rintro _ _ _ ⟨rfl, rfl⟩; exact trivial)) (wanted_yes rfl (by exact (congrArg some hb99))) ?_
        rintro _ σ103 ⟨_, ⟨rfl, rfl⟩, H, -, -⟩
        replace H : Hp S0 σ0 σ103 [Ch.own 0 n0 (Sl a52 r49 c53) r49, Ch.own n0 n0 (Sl a32 r29 c33) r29, Ch.own 0 0 (Sl a45 r93.2 c46) r93.2, Ch.own 0 0 (Sl a38 r88.2 c39) r88.2, Ch.ro 0 (Sl aaA_0 aA_0 caA_0) aA_0, Ch.ro 0 (Sl aaB_1 aB_1 caB_1) aB_1] := H
        clear hle
        replace H : Hp S0 σ0 σ103 [Ch.own 0 n0 (Sl a52 r49 c53) r49, Ch.own n0 n0 (Sl a32 r29 c33) r29, Ch.own 0 0 (Sl a45 r93.2 c46) r93.2, Ch.own 0 0 (Sl a38 r88.2 c39) r88.2, Ch.ro 0 (Sl aaA_0 aA_0 caA_0) aA_0, Ch.ro 0 (Sl aaB_1 aB_1 caB_1) aB_1] := H
        refine st_g (v := (B (!r100))) (congrArg some hb99) (rv_not rfl) ?_
        refine st (v := (B (!r100))) (rv_pick_f (congrArg B hb99) rfl) ?_
        refine w_end ?_
        obtain rfl := Option.some.inj h
        exact ⟨rfl, _, σ103, fr_join ⟨rfl, rfl, rfl, rfl, rfl, trivial⟩, rfl, H.sel' [4, 5, 1, 0] rfl rfl⟩
      ·clear hj
       have h := h'
       clear h' H
       rintro e a w ⟨rfl, ρ, σ104, rfl, rfl, H⟩
       refine q_then ?_
       refine cd_cond o98 rfl (fun hb105 => ?_) (fun hb105 => ?_)
       ·replace h := bif_t hb105 h
        refine c_seq ?_
        refine rg ?_
        refine st (v := (B false)) (rv_assign rfl) ?_
        refine w_end ?_
        refine q_then ?_
        refine c_ret ?_
        refine q_then_r ?_
        obtain rfl := Option.some.inj h
        exact fin_ret (v := (B false)) (results_ok Try.results7 (res_tmp (v := (B false)) rfl res_nil) rfl) ⟨rfl, rfl⟩ (H.sel' [] rfl rfl)
       ·replace h := bif_f hb105 h
        refine c_skip ?_
        refine q_then ?_
        refine c_seq ?_
        refine rg ?_
        refine st (v := (I 1)) (rv_assign rfl) ?_
        refine w_end ?_
        refine q_then ?_
        refine c_seq ?_
        refine rg ?_
        refine st (v := (Sl a52 r49 c53)) (rv_move rfl) ?_
        refine st (v := (I 1)) (rv_move rfl) ?_
        replace H := H.ownLow 3 0 0 rfl (Nat.zero_le _) (Nat.zero_le _)
        obtain ⟨r106, hx107, h'⟩ := bind_some h
        clear h
        have h := h'; clear h'
        have hc108 := c_laws_markIntS (aa_0 := a52) (ca_0 := c53) hx107
        refine st_call (cx_call hc108 (ent_f hc108.fn rfl) hn0 (show Hp S0 σ0 _ ([Ch.own 0 0 (Sl a52 r49 c53) r49] ++ [Ch.ro 0 (Sl aaA_0 aA_0 caA_0) aA_0, Ch.ro 0 (Sl aaB_1 aB_1 caB_1) aB_1, Ch.own n0 n0 (Sl a32 r29 c33) r29]) from (H.sel' [0, 1, 2, 3] rfl rfl))) wn ?_
        rintro _ σ110 ⟨_, ⟨rfl, rfl, hn109⟩, H, -⟩
        replace H : Hp S0 σ0 σ110 [Ch.own 0 0 (Sl a52 r106.2 c53) r106.2, Ch.ro 0 (Sl aaA_0 aA_0 caA_0) aA_0, Ch.ro 0 (Sl aaB_1 aB_1 caB_1) aB_1, Ch.own n0 n0 (Sl a32 r29 c33) r29] := H
        have hsl : (Sl a52 r49 c53) = (Sl a52 r106.2 c53) := sl_len hn109.symm
        try rw [hsl]
        try rw [hsl] at H
        clear hsl
        refine st (v := (I r106.1)) (rv_assign rfl) ?_
        refine w_end ?_
        refine q_then ?_
        refine c_seq ?_
        refine rg ?_
        refine st (v := (I 1)) (rv_assign rfl) ?_
        refine w_end ?_
        refine q_then ?_
        refine c_seq ?_
        refine rg ?_
        refine st (v := (Sl a52 r106.2 c53)) (rv_move rfl) ?_
        refine st (v := (I 1)) (rv_move rfl) ?_
        obtain ⟨r111, hx112, h'⟩ := bind_some h
        clear h
        have h := h'; clear h'
        have hc113 := c_laws_heldIntS (aa_0 := a52) (ca_0 := c53) hx112
        have hle := Nat.le_trans hn0 H.size
        refine st_call (cx_lend (Loan.lend Loan.nil) hc113 (ent_f hc113.fn rfl) (show Hp S0 σ0 _ ([Ch.own 0 0 (Sl a52 r106.2 c53) r106.2] ++ ([] ++ [Ch.ro 0 (Sl aaA_0 aA_0 caA_0) aA_0, Ch.ro 0 (Sl aaB_1 aB_1 caB_1) aB_1, Ch.own n0 n0 (Sl a32 r29 c33) r29])) from (H.sel' [0, 1, 2, 3] rfl rfl)) (by rintro _ _ _ ⟨rfl, rfl⟩; exact trivial)) wn ?_
        rintro _ σ114 ⟨_, ⟨rfl, rfl⟩, H, -, -⟩
        replace H : Hp S0 σ0 σ114 [Ch.own 0 0 (Sl a52 r106.2 c53) r106.2, Ch.ro 0 (Sl aaA_0 aA_0 caA_0) aA_0, Ch.ro 0 (Sl aaB_1 aB_1 caB_1) aB_1, Ch.own n0 n0 (Sl a32 r29 c33) r29] := H
        clear hle
        replace H : Hp S0 σ0 σ114 [Ch.own 0 0 (Sl a52 r106.2 c53) r106.2, Ch.ro 0 (Sl aaA_0 aA_0 caA_0) aA_0, Ch.ro 0 (Sl aaB_1 aB_1 caB_1) aB_1, Ch.own n0 n0 (Sl a32 r29 c33) r29] := H
        refine st (v := (I r111)) (rv_assign rfl) ?_
        refine w_end ?_
        refine q_then ?_
        refine c_seq ?_
        refine c_seq ?_
        refine rg ?_
        refine st (v := (I r111)) (rv_move rfl) ?_
        refine st (v := (B (decide (r111 < 0)))) (rv_lss (a := r111) (b := 0) rfl rfl) ?_
        refine w_end ?_
        refine q_then ?_
        refine cd_cond (decide (r111 < 0)) rfl (fun hb115 => ?_) (fun hb115 => ?_)
        ·replace h := bif_t hb115 h
         refine c_seq ?_
         refine rg ?_
         refine st (v := (B false)) (rv_assign rfl) ?_
         refine w_end ?_
         refine q_then ?_
         refine c_ret ?_
         refine q_then_r ?_
         obtain rfl := Option.some.inj h
         exact fin_ret (v := (B false)) (results_ok Try.results7 (res_tmp (v := (B false)) rfl res_nil) rfl) ⟨rfl, rfl⟩ (H.sel' [] rfl rfl)
        ·replace h := bif_f hb115 h
         refine c_skip ?_
         refine q_then ?_
         refine c_seq ?_
         refine c_seq ?_
         refine rg ?_
         refine st (v := (I r111)) (rv_move rfl) ?_
         refine st (v := (I r106.1)) (rv_move rfl) ?_
         refine st (v := (B (r111 != r106.1))) (rv_neq (a := r111) (b := r106.1) rfl rfl) ?_
         refine w_end ?_
         refine q_then ?_
         refine cd_cond (r111 != r106.1) rfl (fun hb116 => ?_) (fun hb116 => ?_)
         ·replace h := bif_t hb116 h
          refine c_seq ?_
          refine rg ?_
          refine st (v := (B false)) (rv_assign rfl) ?_
          refine w_end ?_
          refine q_then ?_
          refine c_ret ?_
          refine q_then_r ?_
          obtain rfl := Option.some.inj h
          exact fin_ret (v := (B false)) (results_ok Try.results7 (res_tmp (v := (B false)) rfl res_nil) rfl) ⟨rfl, rfl⟩ (H.sel' [] rfl rfl)
         ·replace h := bif_f hb116 h
          refine c_skip ?_
          refine q_then ?_
          refine c_seq ?_
          refine rg ?_
          refine st (v := (Sl aaA_0 aA_0 caA_0)) (rv_move rfl) ?_
          obtain ⟨r117, hx118, h'⟩ := bind_some h
          clear h
          have h := h'; clear h'
          have hc119 := c_laws_toHitS (aa_0 := aaA_0) (ca_0 := caA_0) hx118
          refine st_call (cx_call hc119 (ent_f hc119.fn rfl) hn0 (show Hp S0 σ0 _ ([Ch.ro 0 (Sl aaA_0 aA_0 caA_0) aA_0] ++ [Ch.own 0 0 (Sl a52 r106.2 c53) r106.2, Ch.ro 0 (Sl aaA_0 aA_0 caA_0) aA_0, Ch.ro 0 (Sl aaB_1 aB_1 caB_1) aB_1, Ch.own n0 n0 (Sl a32 r29 c33) r29]) from (H.sel' [1, 0, 1, 2, 3] rfl rfl))) wn ?_
          rintro _ σ123 ⟨_, ⟨a120, c121, rfl, rfl, ht122⟩, H, -⟩
          replace H : Hp S0 σ0 σ123 [Ch.own n0 n0 (Sl a120 r117 c121) r117, Ch.own 0 0 (Sl a52 r106.2 c53) r106.2, Ch.ro 0 (Sl aaA_0 aA_0 caA_0) aA_0, Ch.ro 0 (Sl aaB_1 aB_1 caB_1) aB_1, Ch.own n0 n0 (Sl a32 r29 c33) r29] := H
          refine st (v := (Sl aaB_1 aB_1 caB_1)) (rv_move rfl) ?_
          obtain ⟨r124, hx125, h'⟩ := bind_some h
          clear h
          have h := h'; clear h'
          have hc126 := c_laws_toHitS (aa_0 := aaB_1) (ca_0 := caB_1) hx125
          refine st_call (cx_call hc126 (ent_f hc126.fn rfl) hn0 (show Hp S0 σ0 _ ([Ch.ro 0 (Sl aaB_1 aB_1 caB_1) aB_1] ++ [Ch.own n0 n0 (Sl a120 r117 c121) r117, Ch.own 0 0 (Sl a52 r106.2 c53) r106.2, Ch.ro 0 (Sl aaA_0 aA_0 caA_0) aA_0, Ch.ro 0 (Sl aaB_1 aB_1 caB_1) aB_1, Ch.own n0 n0 (Sl a32 r29 c33) r29]) from (H.sel' [3, 0, 1, 2, 3, 4] rfl rfl))) wn ?_
          rintro _ σ130 ⟨_, ⟨a127, c128, rfl, rfl, ht129⟩, H, -⟩
          replace H : Hp S0 σ0 σ130 [Ch.own n0 n0 (Sl a127 r124 c128) r124, Ch.own n0 n0 (Sl a120 r117 c121) r117, Ch.own 0 0 (Sl a52 r106.2 c53) r106.2, Ch.ro 0 (Sl aaA_0 aA_0 caA_0) aA_0, Ch.ro 0 (Sl aaB_1 aB_1 caB_1) aB_1, Ch.own n0 n0 (Sl a32 r29 c33) r29] := H
          obtain ⟨σ131, hw132, H, -⟩ := H.pub 1 rfl (Nat.le_refl _)
          rw [← hw132]; clear hw132
          obtain ⟨σ133, hw134, H, -⟩ := H.pub 1 rfl (Nat.le_refl _)
          rw [← hw134]; clear hw134
          replace H := H.roLow 1 0 rfl (Nat.zero_le _)
          replace H := H.roLow 1 0 rfl (Nat.zero_le _)
          obtain ⟨r135, hx136, h'⟩ := bind_some h
          clear h
          have h := h'; clear h'
          have hc137 := c_impl_FuseRanks (aa_0 := a120) (ca_0 := c121) (ab_1 := a127) (cb_1 := c128) hx136
          refine st_call (cx_call hc137 (ent_f hc137.fn rfl) hn0 (show Hp S0 σ0 _ ([Ch.ro 0 (Sl a120 r117 c121) r117, Ch.ro 0 (Sl a127 r124 c128) r124] ++ [Ch.ro 0 (Sl a127 r124 c128) r124, Ch.ro 0 (Sl a120 r117 c121) r117, Ch.ro n0 (Sl a127 r124 c128) r124, Ch.ro n0 (Sl a120 r117 c121) r117, Ch.own 0 0 (Sl a52 r106.2 c53) r106.2, Ch.ro 0 (Sl aaA_0 aA_0 caA_0) aA_0, Ch.ro 0 (Sl aaB_1 aB_1 caB_1) aB_1, Ch.own n0 n0 (Sl a32 r29 c33) r29]) from (H.sel' [1, 0, 0, 1, 2, 3, 4, 5, 6, 7] rfl rfl))) wn ?_
          rintro _ σ140 ⟨_, ⟨a138, c139, rfl, rfl⟩, H, -⟩
          replace H : Hp S0 σ0 σ140 [Ch.own 0 n0 (Sl a138 r135 c139) r135, Ch.ro 0 (Sl a127 r124 c128) r124, Ch.ro 0 (Sl a120 r117 c121) r117, Ch.ro n0 (Sl a127 r124 c128) r124, Ch.ro n0 (Sl a120 r117 c121) r117, Ch.own 0 0 (Sl a52 r106.2 c53) r106.2, Ch.ro 0 (Sl aaA_0 aA_0 caA_0) aA_0, Ch.ro 0 (Sl aaB_1 aB_1 caB_1) aB_1, Ch.own n0 n0 (Sl a32 r29 c33) r29] := H
          replace H : Hp S0 σ0 σ140 [Ch.own 0 n0 (Sl a138 r135 c139) r135, Ch.own 0 0 (Sl a52 r106.2 c53) r106.2, Ch.own n0 n0 (Sl a32 r29 c33) r29] := H.sel' [0, 5, 8] rfl rfl
          refine st (v := (Sl a138 r135 c139)) (rv_assign rfl) ?_
          refine w_end ?_
          refine q_then ?_
          refine c_seq ?_
          refine c_seq ?_
          refine rg ?_
          refine st (v := (Sl a138 r135 c139)) (rv_move rfl) ?_
          refine st (v := (Sl a32 r29 c33)) (rv_move rfl) ?_
          replace H := H.ownLow 0 0 0 rfl (Nat.le_refl _) (Nat.zero_le _)
          obtain ⟨σ141, hw142, H, -⟩ := H.pub 0 rfl (Nat.le_refl _)
          rw [← hw142]; clear hw142
          obtain ⟨σ143, hw144, H, -⟩ := H.pub 2 rfl (Nat.le_refl _)
          rw [← hw144]; clear hw144
          replace H := H.roLow 0 0 rfl (Nat.zero_le _)
          obtain ⟨r145, hx146, h'⟩ := bind_some h
          clear h
          have h := h'; clear h'
          have hc147 := c_laws_eqIntS (aa_0 := a138) (ca_0 := c139) (ab_1 := a32) (cb_1 := c33) hx146
          refine st_call (cx_call hc147 (ent_f hc147.fn rfl) hn0 (show Hp S0 σ0 _ ([Ch.ro 0 (Sl a138 r135 c139) r135, Ch.ro 0 (Sl a32 r29 c33) r29] ++ [Ch.ro 0 (Sl a32 r29 c33) r29, Ch.ro n0 (Sl a32 r29 c33) r29, Ch.ro 0 (Sl a138 r135 c139) r135, Ch.own 0 0 (Sl a52 r106.2 c53) r106.2]) from (H.sel' [2, 0, 0, 1, 2, 3] rfl rfl))) wn ?_
          rintro _ σ148 ⟨_, ⟨rfl, rfl⟩, H, -⟩
          replace H : Hp S0 σ0 σ148 [Ch.ro 0 (Sl a32 r29 c33) r29, Ch.ro n0 (Sl a32 r29 c33) r29, Ch.ro 0 (Sl a138 r135 c139) r135, Ch.own 0 0 (Sl a52 r106.2 c53) r106.2] := H
          refine st (v := (B (!r145))) (rv_not rfl) ?_
          refine w_end ?_
          refine q_then ?_
          refine cd_cond (!r145) rfl (fun hb149 => ?_) (fun hb149 => ?_)
          ·replace h := bif_t hb149 h
           refine c_seq ?_
           refine rg ?_
           refine st (v := (B false)) (rv_assign rfl) ?_
           refine w_end ?_
           refine q_then ?_
           refine c_ret ?_
           refine q_then_r ?_
           obtain rfl := Option.some.inj h
           exact fin_ret (v := (B false)) (results_ok Try.results7 (res_tmp (v := (B false)) rfl res_nil) rfl) ⟨rfl, rfl⟩ (H.sel' [] rfl rfl)
          ·replace h := bif_f hb149 h
           refine c_skip ?_
           refine q_then ?_
           refine c_seq ?_
           refine rg ?_
           refine st (v := (I 1)) (rv_assign rfl) ?_
           refine w_end ?_
           refine q_then ?_
           refine c_seq ?_
           refine rg ?_
           refine st (v := (Sl a52 r106.2 c53)) (rv_move rfl) ?_
           refine st (v := (I 1)) (rv_move rfl) ?_
           obtain ⟨σ150, hw151, H, -⟩ := H.pub 3 rfl (Nat.le_refl _)
           rw [← hw151]; clear hw151
           obtain ⟨r152, hx153, h'⟩ := bind_some h
           clear h
           have h := h'; clear h'
           have hc154 := c_laws_heldIntS (aa_0 := a52) (ca_0 := c53) hx153
           refine st_call (cx_call hc154 (ent_f hc154.fn rfl) hn0 (show Hp S0 σ0 _ ([Ch.ro 0 (Sl a52 r106.2 c53) r106.2] ++ [Ch.ro 0 (Sl a52 r106.2 c53) r106.2, Ch.ro 0 (Sl a32 r29 c33) r29, Ch.ro n0 (Sl a32 r29 c33) r29, Ch.ro 0 (Sl a138 r135 c139) r135]) from (H.sel' [0, 0, 1, 2, 3] rfl rfl))) wn ?_
           rintro _ σ155 ⟨_, ⟨rfl, rfl⟩, H, -⟩
           replace H : Hp S0 σ0 σ155 [Ch.ro 0 (Sl a52 r106.2 c53) r106.2, Ch.ro 0 (Sl a32 r29 c33) r29, Ch.ro n0 (Sl a32 r29 c33) r29, Ch.ro 0 (Sl a138 r135 c139) r135] := H
           refine st (v := (I r152)) (rv_assign rfl) ?_
           refine w_end ?_
           refine q_then ?_
           refine c_seq ?_
           refine c_seq ?_
           refine rg ?_
           refine st (v := (I r152)) (rv_move rfl) ?_
           refine st (v := (B (decide (r152 < 0)))) (rv_lss (a := r152) (b := 0) rfl rfl) ?_
           refine w_end ?_
           refine q_then ?_
           refine cd_cond (decide (r152 < 0)) rfl (fun hb156 => ?_) (fun hb156 => ?_)
           ·replace h := bif_t hb156 h
            refine c_seq ?_
            refine rg ?_
            refine st (v := (B false)) (rv_assign rfl) ?_
            refine w_end ?_
            refine q_then ?_
            refine c_ret ?_
            refine q_then_r ?_
            obtain rfl := Option.some.inj h
            exact fin_ret (v := (B false)) (results_ok Try.results7 (res_tmp (v := (B false)) rfl res_nil) rfl) ⟨rfl, rfl⟩ (H.sel' [] rfl rfl)
           ·replace h := bif_f hb156 h
            refine c_skip ?_
            refine q_then ?_
            refine c_seq ?_
            refine c_seq ?_
            refine rg ?_
            refine st (v := (I r152)) (rv_move rfl) ?_
            refine st (v := (I r106.1)) (rv_move rfl) ?_
            refine st (v := (B (r152 != r106.1))) (rv_neq (a := r152) (b := r106.1) rfl rfl) ?_
            refine w_end ?_
            refine q_then ?_
            refine cd_cond (r152 != r106.1) rfl (fun hb157 => ?_) (fun hb157 => ?_)
            ·replace h := bif_t hb157 h
             refine c_seq ?_
             refine rg ?_
             refine st (v := (B false)) (rv_assign rfl) ?_
             refine w_end ?_
             refine q_then ?_
             refine c_ret ?_
             refine q_then_r ?_
             obtain rfl := Option.some.inj h
             exact fin_ret (v := (B false)) (results_ok Try.results7 (res_tmp (v := (B false)) rfl res_nil) rfl) ⟨rfl, rfl⟩ (H.sel' [] rfl rfl)
            ·replace h := bif_f hb157 h
             refine c_skip ?_
             refine q_then ?_
             refine c_seq ?_
             refine rg ?_
             refine st (v := (B true)) (rv_assign rfl) ?_
             refine w_end ?_
             refine q_then ?_
             refine c_ret ?_
             obtain rfl := Option.some.inj h
             exact fin_ret (v := (B true)) (results_ok Try.results7 (res_tmp (v := (B true)) rfl res_nil) rfl) ⟨rfl, rfl⟩ (H.sel' [] rfl rfl)

end Go.Vs
