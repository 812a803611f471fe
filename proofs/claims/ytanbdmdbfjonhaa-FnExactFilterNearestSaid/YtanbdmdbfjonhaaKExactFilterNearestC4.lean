/- The functions compute what their models say. -/
import Derived.Test.YtanbdmdbfjonhaaKExactFilterNearestC3
set_option linter.unusedVariables false
set_option linter.unusedSimpArgs false
set_option maxRecDepth 20000
namespace Go.Vs
open Go Go.Proofs
attribute [local irreducible] Code.wp Code.wpIn wpList wpListIn wpQuiet Calls CallsIn

theorem c_laws_eqHitS {a_0 : List (Int × Int)} {b_1 : List (Int × Int)} {aa_0 : Option Addr} {ca_0 : Nat} {ab_1 : Option Addr} {cb_1 : Nat} {r : Bool} (h : M.laws_eqHitS a_0 b_1 = some r) :
    Cal2 Try.prog 38 [(Sl aa_0 a_0 ca_0), (Sl ab_1 b_1 cb_1)] [Ch.ro 0 (Sl aa_0 a_0 ca_0) a_0, Ch.ro 0 (Sl ab_1 b_1 cb_1) b_1] (fun n0 v L => v = (B r) ∧ L = []) := by
 refine cal2 (n := 27) Try.func38 rfl rfl rfl rfl ?_
 intro S0 σ0 n0 hn0 H
 unfold M.laws_eqHitS at h
 refine c_seq ?_
 refine rg ?_
 refine st (v := (B false)) (rv_assign rfl) ?_
 refine w_end ?_
 refine q_then ?_
 refine c_seq ?_
 refine c_seq ?_
 refine rg ?_
 refine st (v := (Sl aa_0 a_0 ca_0)) (rv_move rfl) ?_
 refine st (v := (I (a_0.length : Int))) (rv_len Try.underlying56 rfl) ?_
 refine st (v := (Sl ab_1 b_1 cb_1)) (rv_move rfl) ?_
 refine st (v := (I (b_1.length : Int))) (rv_len Try.underlying56 rfl) ?_
 refine st (v := (B ((a_0.length : Int) != (b_1.length : Int)))) (rv_neq (a := (a_0.length : Int)) (b := (b_1.length : Int)) rfl rfl) ?_
 refine w_end ?_
 refine q_then ?_
 refine cd_cond ((a_0.length : Int) != (b_1.length : Int)) rfl (fun hb1 => ?_) (fun hb1 => ?_)
 ·replace h := bif_t hb1 h
  refine c_seq ?_
  refine rg ?_
  refine st (v := (B false)) (rv_assign rfl) ?_
  refine w_end ?_
  refine q_then ?_
  refine c_ret ?_
  refine q_then_r ?_
  obtain rfl := Option.some.inj h
  exact fin_ret (v := (B false)) (results_ok Try.results38 (res_tmp (v := (B false)) rfl res_nil) rfl) ⟨rfl, rfl⟩ (H.sel' [] rfl rfl)
 ·replace h := bif_f hb1 h
  refine c_skip ?_
  refine q_then ?_
  refine c_seq ?_
  refine c_seq ?_
  refine rg ?_
  refine st (v := (I 0)) (rv_assign rfl) ?_
  refine w_end ?_
  refine q_then ?_
  obtain ⟨o2, hj, h'⟩ := bind_some h
  clear h
  refine c_cut (fun e a w => (∃ t, o2 = (.inl t) ∧ e = .normal ∧ ∃ (ρ : Nat → Value) (σ : St), a = fr 27 (updL ρ []) ∧ w = σ.w ∧ Hp S0 σ0 σ []) ∨ (∃ t, o2 = (.inr t) ∧ e = .ret ∧ ∃ (ρ : Nat → Value) (σ : St), a = fr 27 (updL ρ [(4, (B t))]) ∧ w = σ.w ∧ Hp S0 σ0 σ [])) ?_ ?_
  ·clear h'
   rename _ = some o2 => h
   refine c_blk ?_
   refine wp_loopM _ h (fun s3 a w => ∃ (ρ : Nat → Value) (σ : St), a = fr 27 (updL ρ [(0, (Sl aa_0 a_0 ca_0)), (1, (Sl ab_1 b_1 cb_1)), (5, (I s3))]) ∧ w = σ.w ∧ Hp S0 σ0 σ [Ch.ro 0 (Sl aa_0 a_0 ca_0) a_0, Ch.ro 0 (Sl ab_1 b_1 cb_1) b_1]) ⟨_, σ0, fr_join ⟨rfl, rfl, rfl, trivial⟩, rfl, H.sel' [0, 1] rfl rfl⟩ ?_
   clear h H
   rintro s3 a w o ⟨ρ, σ4, rfl, rfl, H⟩ h hres
   refine c_seq ?_
   refine c_seq ?_
   refine rg ?_
   refine st (v := (I s3)) (rv_move rfl) ?_
   refine st (v := (Sl aa_0 a_0 ca_0)) (rv_move rfl) ?_
   refine st (v := (I (a_0.length : Int))) (rv_len Try.underlying56 rfl) ?_
   refine st (v := (B (decide (s3 < (a_0.length : Int))))) (rv_lss (a := s3) (b := (a_0.length : Int)) rfl rfl) ?_
   refine w_end ?_
   refine q_then ?_
   refine cd_cond (decide (s3 < (a_0.length : Int))) rfl (fun hb5 => ?_) (fun hb5 => ?_)
   ·replace h := bif_t hb5 h
    refine c_skip ?_
    refine q_then ?_
    refine c_seq ?_
    refine c_blk ?_
    refine c_seq ?_
    refine rgP (σ := σ4) 8 (by kernel_rfl) (by kernel_rfl) (by kernel_rfl) ?_
    refine sq (v := (Sl aa_0 a_0 ca_0)) (rv_move rfl) ?_
    refine sq (v := (I s3)) (rv_move rfl) ?_
    obtain ⟨x6, hx7, h'⟩ := bind_some h
    clear h
    have h := h'; clear h'
    obtain ⟨b9, o10, hi8, -⟩ := (H.ro 0 rfl).ix hx7
    refine sq (v := (pt b9 o10)) (rv_ix Try.underlying56 ti91 rfl rfl hi8) ?_
    obtain ⟨_, ⟨_, _, rfl, rfl, rfl⟩, hl11, hc12⟩ := ((H.ro 0 rfl).at hx7 hi8).cells
    refine sq (v := (.agg #[(I x6.1), (I x6.2)])) (rv_load Try.underlying91 rfl ti91 rfl hl11 hc12) ?_
    refine sq (v := (Sl ab_1 b_1 cb_1)) (rv_move rfl) ?_
    refine sq (v := (I s3)) (rv_move rfl) ?_
    obtain ⟨x13, hx14, h'⟩ := bind_some h
    clear h
    have h := h'; clear h'
    obtain ⟨b16, o17, hi15, -⟩ := (H.ro 1 rfl).ix hx14
    refine sq (v := (pt b16 o17)) (rv_ix Try.underlying56 ti91 rfl rfl hi15) ?_
    obtain ⟨_, ⟨_, _, rfl, rfl, rfl⟩, hl18, hc19⟩ := ((H.ro 1 rfl).at hx14 hi15).cells
    refine sq (v := (.agg #[(I x13.1), (I x13.2)])) (rv_load Try.underlying91 rfl ti91 rfl hl18 hc19) ?_
    refine sq_end ?_
    intro σ20 hm21
    replace H := H.grow (hm21.mono fun _ h => h); clear hm21
    obtain ⟨r22, hx23, h'⟩ := bind_some h
    clear h
    have h := h'; clear h'
    have hc24 := c_laws_eqHit hx23
    refine st_call (cx_call hc24 (ent_f hc24.fn rfl) hn0 (show Hp S0 σ0 _ ([] ++ [Ch.ro 0 (Sl aa_0 a_0 ca_0) a_0, Ch.ro 0 (Sl ab_1 b_1 cb_1) b_1]) from (H.sel' [0, 1] rfl rfl))) wn ?_
    rintro _ σ25 ⟨_, ⟨rfl, rfl⟩, H, -⟩
    replace H : Hp S0 σ0 σ25 [Ch.ro 0 (Sl aa_0 a_0 ca_0) a_0, Ch.ro 0 (Sl ab_1 b_1 cb_1) b_1] := H
    refine st (v := (B (!r22))) (rv_not rfl) ?_
    refine w_end ?_
    refine q_then ?_
    refine cd_cond (!r22) rfl (fun hb26 => ?_) (fun hb26 => ?_)
    ·replace h := bif_t hb26 h
     refine c_seq ?_
     refine rg ?_
     refine st (v := (B false)) (rv_assign rfl) ?_
     refine w_end ?_
     refine q_then ?_
     refine c_ret ?_
     refine q_blk_r ?_
     refine q_then_r ?_
     refine q_then_r ?_
     refine q_blk_r ?_
     obtain rfl := Option.some.inj h
     obtain rfl := hres _ rfl
     exact .inr (⟨_, rfl, rfl, _, σ25, fr_join ⟨rfl, trivial⟩, rfl, H.sel' [] rfl rfl⟩)
    ·replace h := bif_f hb26 h
     refine c_skip ?_
     refine q_blk ?_
     refine q_then ?_
     refine rg ?_
     refine st (v := (I s3)) (rv_move rfl) ?_
     refine st (v := (I (w64 (s3 + 1)))) (rv_add (a := s3) (b := 1) rfl rfl) ?_
     refine st (v := (I (w64 (s3 + 1)))) (rv_assign rfl) ?_
     refine w_end ?_
     refine q_then ?_
     obtain rfl := Option.some.inj h
     exact ⟨_, rfl, _, σ25, fr_join ⟨rfl, rfl, rfl, trivial⟩, rfl, H.sel' [0, 1] rfl rfl⟩
   ·replace h := bif_f hb5 h
    refine c_exit ?_
    refine q_then_x ?_
    refine q_then_x ?_
    refine q_blk_hit ?_
    obtain rfl := Option.some.inj h
    obtain rfl := hres _ rfl
    exact .inl ⟨_, rfl, rfl, _, σ4, fr_join trivial, rfl, H.sel' [] rfl rfl⟩
  ·clear hj
   have h := h'
   clear h' H
   rintro e a w (⟨t27, rfl, rfl, ρ, σ28, rfl, rfl, H⟩ | ⟨t29, rfl, rfl, ρ, σ30, rfl, rfl, H⟩)
   ·replace h := selim_l h
    refine q_then ?_
    refine c_seq ?_
    refine rg ?_
    refine st (v := (B true)) (rv_assign rfl) ?_
    refine w_end ?_
    refine q_then ?_
    refine c_ret ?_
    obtain rfl := Option.some.inj h
    exact fin_ret (v := (B true)) (results_ok Try.results38 (res_tmp (v := (B true)) rfl res_nil) rfl) ⟨rfl, rfl⟩ (H.sel' [] rfl rfl)
   ·replace h := selim_r h
    refine q_then_r ?_
    obtain rfl := Option.some.inj h
    exact fin_ret (v := (B t29)) (results_ok Try.results38 (res_tmp (v := (B t29)) rfl res_nil) rfl) ⟨rfl, rfl⟩ (H.sel' [] rfl rfl)

theorem c_laws_markHitS {a_0 : List (Int × Int)} {k_1 : Int} {aa_0 : Option Addr} {ca_0 : Nat} {r : Int × (List (Int × Int))} (h : M.laws_markHitS a_0 k_1 = some r) :
    Cal2 Try.prog 41 [(Sl aa_0 a_0 ca_0), (I k_1)] [Ch.own 0 0 (Sl aa_0 a_0 ca_0) a_0] (fun n0 v L => v = (I r.1) ∧ L = [Ch.own 0 0 (Sl aa_0 r.2 ca_0) r.2] ∧ r.2.length = a_0.length) := by
 refine cal2 (n := 27) Try.func41 rfl rfl rfl rfl ?_
 intro S0 σ0 n0 hn0 H
 unfold M.laws_markHitS at h
 refine c_seq ?_
 refine rg ?_
 refine st (v := (I 0)) (rv_assign rfl) ?_
 refine w_end ?_
 refine q_then ?_
 refine c_seq ?_
 refine c_seq ?_
 refine rg ?_
 refine st (v := (I 0)) (rv_assign rfl) ?_
 refine w_end ?_
 refine q_then ?_
 obtain ⟨o1, hj, h'⟩ := bind_some h
 clear h
 refine c_cut (fun e a w => e = .normal ∧ ∃ (ρ : Nat → Value) (σ : St), a = fr 27 (updL ρ [(0, (Sl aa_0 o1.1 ca_0)), (1, (I o1.2))]) ∧ w = σ.w ∧ Hp S0 σ0 σ [Ch.own 0 0 (Sl aa_0 o1.1 ca_0) o1.1] ∧ o1.1.length = a_0.length) ?_ ?_
 ·clear h'
  rename _ = some o1 => h
  refine c_blk ?_
  refine wp_loopM _ h (fun s2 a w => ∃ (ρ : Nat → Value) (σ : St), a = fr 27 (updL ρ [(0, (Sl aa_0 s2.1 ca_0)), (1, (I s2.2.1)), (5, (I s2.2.2))]) ∧ w = σ.w ∧ Hp S0 σ0 σ [Ch.own 0 0 (Sl aa_0 s2.1 ca_0) s2.1] ∧ s2.1.length = a_0.length) ⟨_, σ0, fr_join ⟨rfl, rfl, rfl, trivial⟩, rfl, H.sel' [0] rfl rfl, rfl⟩ ?_
  clear h H
  rintro s2 a w o ⟨ρ, σ3, rfl, rfl, H, hn4⟩ h hres
  refine c_seq ?_
  refine c_seq ?_
  refine rg ?_
  refine st (v := (I s2.2.2)) (rv_move rfl) ?_
  refine st (v := (Sl aa_0 s2.1 ca_0)) (rv_move rfl) ?_
  refine st (v := (I (s2.1.length : Int))) (rv_len Try.underlying56 rfl) ?_
  refine st (v := (B (decide (s2.2.2 < (s2.1.length : Int))))) (rv_lss (a := s2.2.2) (b := (s2.1.length : Int)) rfl rfl) ?_
  refine w_end ?_
  refine q_then ?_
  refine cd_cond (decide (s2.2.2 < (s2.1.length : Int))) rfl (fun hb5 => ?_) (fun hb5 => ?_)
  ·replace h := bif_t hb5 h
   refine c_skip ?_
   refine q_then ?_
   refine c_seq ?_
   refine c_blk ?_
   refine c_seq ?_
   refine rg ?_
   refine st (v := (Sl aa_0 s2.1 ca_0)) (rv_move rfl) ?_
   refine st (v := (I s2.2.2)) (rv_move rfl) ?_
   refine st (v := (I s2.2.1)) (rv_move rfl) ?_
   obtain ⟨x6, hx7, h'⟩ := bind_some h
   clear h
   have h := h'; clear h'
   obtain ⟨b9, o10, hi8, -⟩ := (H.own 0 rfl).ix hx7
   refine st (v := (pt b9 o10)) (rv_ix Try.underlying56 ti91 rfl rfl hi8) ?_
   refine st (v := (pt b9 (o10 + 0))) (rv_fieldAddr (off := 0) (ft := 3) Try.underlying91 rfl ti3 rfl rfl) ?_
   refine st_exS (ex_store_own (e' := (s2.2.1, x6.2)) (vs := [(I s2.2.1)]) (k := 0) H (i := 0) rfl ti3 hx7 hi8 rfl rfl rfl rfl rfl (Nat.le_of_ble_eq_true rfl) (by simp [plain]) (by rintro _ ⟨_, _, rfl, rfl, rfl⟩; exact ⟨[(I s2.2.1)], [(I x6.2)], rfl, rfl, rfl⟩)) wn ?_
   rintro σ11 ⟨H, -⟩
   have hsl : (Sl aa_0 s2.1 ca_0) = (Sl aa_0 (s2.1.set s2.2.2.toNat (s2.2.1, x6.2)) ca_0) := sl_len List.length_set.symm
   rw [hsl]; rw [hsl] at H; clear hsl
   refine w_end ?_
   refine q_then ?_
   refine c_seq ?_
   refine rg ?_
   refine st (v := (I s2.2.1)) (rv_move rfl) ?_
   refine st (v := (I (w64 (s2.2.1 + 1)))) (rv_add (a := s2.2.1) (b := 1) rfl rfl) ?_
   refine st (v := (I (w64 (s2.2.1 + 1)))) (rv_assign rfl) ?_
   refine w_end ?_
   refine q_then ?_
   refine c_seq ?_
   refine rg ?_
   refine st (v := (Sl aa_0 (s2.1.set s2.2.2.toNat (s2.2.1, x6.2)) ca_0)) (rv_move rfl) ?_
   refine st (v := (I s2.2.2)) (rv_move rfl) ?_
   refine st (v := (I (w64 (s2.2.1 + 1)))) (rv_move rfl) ?_
   obtain ⟨x12, hx13, h'⟩ := bind_some h
   clear h
   have h := h'; clear h'
   obtain ⟨b15, o16, hi14, -⟩ := (H.own 0 rfl).ix hx13
   refine st (v := (pt b15 o16)) (rv_ix Try.underlying56 ti91 rfl rfl hi14) ?_
   refine st (v := (pt b15 (o16 + 1))) (rv_fieldAddr (off := 1) (ft := 3) Try.underlying91 rfl ti3 rfl rfl) ?_
   refine st_exS (ex_store_own (e' := (x12.1, w64 (s2.2.1 + 1))) (vs := [(I (w64 (s2.2.1 + 1)))]) (k := 1) H (i := 0) rfl ti3 hx13 hi14 rfl rfl rfl rfl rfl (Nat.le_of_ble_eq_true rfl) (by simp [plain]) (by rintro _ ⟨_, _, rfl, rfl, rfl⟩; exact ⟨[(I x12.1)], [(I (w64 (s2.2.1 + 1)))], rfl, rfl, rfl⟩)) wn ?_
   rintro σ17 ⟨H, -⟩
   have hsl : (Sl aa_0 (s2.1.set s2.2.2.toNat (s2.2.1, x6.2)) ca_0) = (Sl aa_0 ((s2.1.set s2.2.2.toNat (s2.2.1, x6.2)).set s2.2.2.toNat (x12.1, w64 (s2.2.1 + 1))) ca_0) := sl_len List.length_set.symm
   rw [hsl]; rw [hsl] at H; clear hsl
   refine w_end ?_
   refine q_then ?_
   refine rg ?_
   refine st (v := (I (w64 (s2.2.1 + 1)))) (rv_move rfl) ?_
   refine st (v := (I (w64 ((w64 (s2.2.1 + 1)) + 1)))) (rv_add (a := (w64 (s2.2.1 + 1))) (b := 1) rfl rfl) ?_
   refine st (v := (I (w64 ((w64 (s2.2.1 + 1)) + 1)))) (rv_assign rfl) ?_
   refine w_end ?_
   refine q_blk ?_
   refine q_then ?_
   refine rg ?_
   refine st (v := (I s2.2.2)) (rv_move rfl) ?_
   refine st (v := (I (w64 (s2.2.2 + 1)))) (rv_add (a := s2.2.2) (b := 1) rfl rfl) ?_
   refine st (v := (I (w64 (s2.2.2 + 1)))) (rv_assign rfl) ?_
   refine w_end ?_
   refine q_then ?_
   obtain rfl := Option.some.inj h
   exact ⟨_, rfl, _, σ17, fr_join ⟨rfl, rfl, rfl, trivial⟩, rfl, H.sel' [0] rfl rfl, (List.length_set.trans (List.length_set.trans hn4))⟩
  ·replace h := bif_f hb5 h
   refine c_exit ?_
   refine q_then_x ?_
   refine q_then_x ?_
   refine q_blk_hit ?_
   obtain rfl := Option.some.inj h
   obtain rfl := hres _ rfl
   exact ⟨rfl, _, σ3, fr_join ⟨rfl, rfl, trivial⟩, rfl, H.sel' [0] rfl rfl, hn4⟩
 ·clear hj
  have h := h'
  clear h' H
  rintro e a w ⟨rfl, ρ, σ18, rfl, rfl, H, hn19⟩
  refine q_then ?_
  refine c_seq ?_
  refine rg ?_
  refine st (v := (I o1.2)) (rv_move rfl) ?_
  refine st (v := (I o1.2)) (rv_assign rfl) ?_
  refine w_end ?_
  refine q_then ?_
  refine c_ret ?_
  obtain rfl := Option.some.inj h
  exact fin_ret (v := (I o1.2)) (results_ok Try.results41 (res_tmp (v := (I o1.2)) rfl res_nil) rfl) ⟨rfl, rfl, hn19⟩ (H.sel' [0] rfl rfl)

theorem c_laws_heldHitS {a_0 : List (Int × Int)} {k_1 : Int} {aa_0 : Option Addr} {ca_0 : Nat} {r : Int} (h : M.laws_heldHitS a_0 k_1 = some r) :
    Cal2 Try.prog 42 [(Sl aa_0 a_0 ca_0), (I k_1)] [Ch.ro 0 (Sl aa_0 a_0 ca_0) a_0] (fun n0 v L => v = (I r) ∧ L = []) := by
 refine cal2 (n := 31) Try.func42 rfl rfl rfl rfl ?_
 intro S0 σ0 n0 hn0 H
 unfold M.laws_heldHitS at h
 refine c_seq ?_
 refine rg ?_
 refine st (v := (I 0)) (rv_assign rfl) ?_
 refine w_end ?_
 refine q_then ?_
 refine c_seq ?_
 refine c_seq ?_
 refine rg ?_
 refine st (v := (I 0)) (rv_assign rfl) ?_
 refine w_end ?_
 refine q_then ?_
 obtain ⟨o1, hj, h'⟩ := bind_some h
 clear h
 refine c_cut (fun e a w => (∃ t, o1 = (.inl t) ∧ e = .normal ∧ ∃ (ρ : Nat → Value) (σ : St), a = fr 31 (updL ρ [(1, (I t))]) ∧ w = σ.w ∧ Hp S0 σ0 σ []) ∨ (∃ t, o1 = (.inr t) ∧ e = .ret ∧ ∃ (ρ : Nat → Value) (σ : St), a = fr 31 (updL ρ [(4, (I t))]) ∧ w = σ.w ∧ Hp S0 σ0 σ [])) ?_ ?_
 ·clear h'
  rename _ = some o1 => h
  refine c_blk ?_
  refine wp_loopM _ h (fun s2 a w => ∃ (ρ : Nat → Value) (σ : St), a = fr 31 (updL ρ [(0, (Sl aa_0 a_0 ca_0)), (1, (I s2.1)), (5, (I s2.2))]) ∧ w = σ.w ∧ Hp S0 σ0 σ [Ch.ro 0 (Sl aa_0 a_0 ca_0) a_0]) ⟨_, σ0, fr_join ⟨rfl, rfl, rfl, trivial⟩, rfl, H.sel' [0] rfl rfl⟩ ?_
  clear h H
  rintro s2 a w o ⟨ρ, σ3, rfl, rfl, H⟩ h hres
  refine c_seq ?_
  refine c_seq ?_
  refine rg ?_
  refine st (v := (I s2.2)) (rv_move rfl) ?_
  refine st (v := (Sl aa_0 a_0 ca_0)) (rv_move rfl) ?_
  refine st (v := (I (a_0.length : Int))) (rv_len Try.underlying56 rfl) ?_
  refine st (v := (B (decide (s2.2 < (a_0.length : Int))))) (rv_lss (a := s2.2) (b := (a_0.length : Int)) rfl rfl) ?_
  refine w_end ?_
  refine q_then ?_
  refine cd_cond (decide (s2.2 < (a_0.length : Int))) rfl (fun hb4 => ?_) (fun hb4 => ?_)
  ·replace h := bif_t hb4 h
   refine c_skip ?_
   refine q_then ?_
   refine c_seq ?_
   refine c_blk ?_
   refine c_seq ?_
   refine c_seq ?_
   refine rg ?_
   refine st (v := (Sl aa_0 a_0 ca_0)) (rv_move rfl) ?_
   refine st (v := (I s2.2)) (rv_move rfl) ?_
   obtain ⟨x5, hx6, h'⟩ := bind_some h
   clear h
   have h := h'; clear h'
   obtain ⟨b8, o9, hi7, -⟩ := (H.ro 0 rfl).ix hx6
   refine st (v := (pt b8 o9)) (rv_ix Try.underlying56 ti91 rfl rfl hi7) ?_
   refine st (v := (pt b8 (o9 + 0))) (rv_fieldAddr (off := 0) (ft := 3) Try.underlying91 rfl ti3 rfl rfl) ?_
   have hc10 := ((H.ro 0 rfl).at hx6 hi7).fst.int
   refine st (v := (I x5.1)) (rv_load1 Try.underlying3 rfl rfl hc10) ?_
   refine st (v := (I s2.1)) (rv_move rfl) ?_
   refine st (v := (B (x5.1 != s2.1))) (rv_neq (a := x5.1) (b := s2.1) rfl rfl) ?_
   refine w_end ?_
   refine q_then ?_
   refine cd_cond (x5.1 != s2.1) rfl (fun hb11 => ?_) (fun hb11 => ?_)
   ·replace h := bif_t hb11 h
    refine c_seq ?_
    refine rg ?_
    refine st (v := (I (-1))) (rv_assign rfl) ?_
    refine w_end ?_
    refine q_then ?_
    refine c_ret ?_
    refine q_then_r ?_
    refine q_blk_r ?_
    refine q_then_r ?_
    refine q_then_r ?_
    refine q_blk_r ?_
    obtain rfl := Option.some.inj h
    obtain rfl := hres _ rfl
    exact .inr (⟨_, rfl, rfl, _, σ3, fr_join ⟨rfl, trivial⟩, rfl, H.sel' [] rfl rfl⟩)
   ·replace h := bif_f hb11 h
    refine c_skip ?_
    refine q_then ?_
    refine c_seq ?_
    refine rg ?_
    refine st (v := (I s2.1)) (rv_move rfl) ?_
    refine st (v := (I (w64 (s2.1 + 1)))) (rv_add (a := s2.1) (b := 1) rfl rfl) ?_
    refine st (v := (I (w64 (s2.1 + 1)))) (rv_assign rfl) ?_
    refine w_end ?_
    refine q_then ?_
    refine c_seq ?_
    refine c_seq ?_
    refine rg ?_
    refine st (v := (Sl aa_0 a_0 ca_0)) (rv_move rfl) ?_
    refine st (v := (I s2.2)) (rv_move rfl) ?_
    obtain ⟨x12, hx13, h'⟩ := bind_some h
    clear h
    have h := h'; clear h'
    obtain ⟨b15, o16, hi14, -⟩ := (H.ro 0 rfl).ix hx13
    refine st (v := (pt b15 o16)) (rv_ix Try.underlying56 ti91 rfl rfl hi14) ?_
    refine st (v := (pt b15 (o16 + 1))) (rv_fieldAddr (off := 1) (ft := 3) Try.underlying91 rfl ti3 rfl rfl) ?_
    have hc17 := ((H.ro 0 rfl).at hx13 hi14).snd.int
    refine st (v := (I x12.2)) (rv_load1 Try.underlying3 rfl rfl hc17) ?_
    refine st (v := (I (w64 (s2.1 + 1)))) (rv_move rfl) ?_
    refine st (v := (B (x12.2 != (w64 (s2.1 + 1))))) (rv_neq (a := x12.2) (b := (w64 (s2.1 + 1))) rfl rfl) ?_
    refine w_end ?_
    refine q_then ?_
    refine cd_cond (x12.2 != (w64 (s2.1 + 1))) rfl (fun hb18 => ?_) (fun hb18 => ?_)
    ·replace h := bif_t hb18 h
     refine c_seq ?_
     refine rg ?_
     refine st (v := (I (-1))) (rv_assign rfl) ?_
     refine w_end ?_
     refine q_then ?_
     refine c_ret ?_
     refine q_then_r ?_
     refine q_blk_r ?_
     refine q_then_r ?_
     refine q_then_r ?_
     refine q_blk_r ?_
     obtain rfl := Option.some.inj h
     obtain rfl := hres _ rfl
     exact .inr (⟨_, rfl, rfl, _, σ3, fr_join ⟨rfl, trivial⟩, rfl, H.sel' [] rfl rfl⟩)
    ·replace h := bif_f hb18 h
     refine c_skip ?_
     refine q_then ?_
     refine rg ?_
     refine st (v := (I (w64 (s2.1 + 1)))) (rv_move rfl) ?_
     refine st (v := (I (w64 ((w64 (s2.1 + 1)) + 1)))) (rv_add (a := (w64 (s2.1 + 1))) (b := 1) rfl rfl) ?_
     refine st (v := (I (w64 ((w64 (s2.1 + 1)) + 1)))) (rv_assign rfl) ?_
     refine w_end ?_
     refine q_blk ?_
     refine q_then ?_
     refine rg ?_
     refine st (v := (I s2.2)) (rv_move rfl) ?_
     refine st (v := (I (w64 (s2.2 + 1)))) (rv_add (a := s2.2) (b := 1) rfl rfl) ?_
     refine st (v := (I (w64 (s2.2 + 1)))) (rv_assign rfl) ?_
     refine w_end ?_
     refine q_then ?_
     obtain rfl := Option.some.inj h
     exact ⟨_, rfl, _, σ3, fr_join ⟨rfl, rfl, rfl, trivial⟩, rfl, H.sel' [0] rfl rfl⟩
  ·replace h := bif_f hb4 h
   refine c_exit ?_
   refine q_then_x ?_
   refine q_then_x ?_
   refine q_blk_hit ?_
   obtain rfl := Option.some.inj h
   obtain rfl := hres _ rfl
   exact .inl ⟨_, rfl, rfl, _, σ3, fr_join ⟨rfl, trivial⟩, rfl, H.sel' [] rfl rfl⟩
 ·clear hj
  have h := h'
  clear h' H
  rintro e a w (⟨t19, rfl, rfl, ρ, σ20, rfl, rfl, H⟩ | ⟨t21, rfl, rfl, ρ, σ22, rfl, rfl, H⟩)
  ·replace h := selim_l h
   refine q_then ?_
   refine c_seq ?_
   refine rg ?_
   refine st (v := (I t19)) (rv_move rfl) ?_
   refine st (v := (I t19)) (rv_assign rfl) ?_
   refine w_end ?_
   refine q_then ?_
   refine c_ret ?_
   obtain rfl := Option.some.inj h
   exact fin_ret (v := (I t19)) (results_ok Try.results42 (res_tmp (v := (I t19)) rfl res_nil) rfl) ⟨rfl, rfl⟩ (H.sel' [] rfl rfl)
  ·replace h := selim_r h
   refine q_then_r ?_
   obtain rfl := Option.some.inj h
   exact fin_ret (v := (I t21)) (results_ok Try.results42 (res_tmp (v := (I t21)) rfl res_nil) rfl) ⟨rfl, rfl⟩ (H.sel' [] rfl rfl)

theorem c_laws_FnExactFilterNearest {aList_0 : List (Int × (List Int) × Int)} {aF_1 : Int × Int × Int} {aKind_2 : Int} {aAt_3 : List Int} {aK_4 : Int} {aaList_0 : Option Addr} {caList_0 : Nat} {aaAt_3 : Option Addr} {caAt_3 : Nat} {r : Bool} (h : M.laws_FnExactFilterNearest aList_0 aF_1 aKind_2 aAt_3 aK_4 = some r) :
    Cal2 Try.prog 10 [(Sl aaList_0 aList_0 caList_0), (.agg #[(I aF_1.1), (I aF_1.2.1), (I aF_1.2.2)]), (I aKind_2), (Sl aaAt_3 aAt_3 caAt_3), (I aK_4)] [Ch.ro 0 (Sl aaList_0 aList_0 caList_0) aList_0, Ch.ro 0 (Sl aaAt_3 aAt_3 caAt_3) aAt_3] (fun n0 v L => v = (B r) ∧ L = []) := by
 refine cal2 (n := 108) Try.func10 rfl rfl rfl rfl ?_
 intro S0 σ0 n0 hn0 H
 unfold M.laws_FnExactFilterNearest at h
 refine c_seq ?_
 refine rg ?_
 refine st_ex (ex_box (cs := [(I aF_1.1), (I aF_1.2.1), (I aF_1.2.2)]) H hn0 rfl rfl) wn ?_
 rintro _ σ2 ⟨b1, rfl, H, -⟩
 refine st (v := (B false)) (rv_assign rfl) ?_
 refine w_end ?_
 refine q_then ?_
 refine c_seq ?_
 refine c_seq ?_
 refine rg ?_
 refine st (v := (Sl aaAt_3 aAt_3 caAt_3)) (rv_move rfl) ?_
 refine st (v := (I (aAt_3.length : Int))) (rv_len Try.underlying30 rfl) ?_
 refine st (v := (B (decide (1048576 < (aAt_3.length : Int))))) (rv_gtr (a := (aAt_3.length : Int)) (b := 1048576) rfl rfl) ?_
 refine w_end ?_
 refine q_then ?_
 refine cd_cond (decide (1048576 < (aAt_3.length : Int))) rfl (fun hb3 => ?_) (fun hb3 => ?_)
 ·replace h := bif_t hb3 h
  refine c_seq ?_
  refine rg ?_
  refine st (v := (B true)) (rv_assign rfl) ?_
  refine w_end ?_
  refine q_then ?_
  refine c_ret ?_
  refine q_then_r ?_
  obtain rfl := Option.some.inj h
  exact fin_ret (v := (B true)) (results_ok Try.results10 (res_tmp (v := (B true)) rfl res_nil) rfl) ⟨rfl, rfl⟩ (H.sel' [] rfl rfl)
 ·replace h := bif_f hb3 h
  refine c_skip ?_
  refine q_then ?_
  refine c_seq ?_
  refine rg ?_
  refine st (v := (I 1048576)) (rv_assign rfl) ?_
  refine w_end ?_
  refine q_then ?_
  refine c_seq ?_
  refine rg ?_
  refine st (v := (Sl aaList_0 aList_0 caList_0)) (rv_move rfl) ?_
  refine st (v := (I 1048576)) (rv_move rfl) ?_
  obtain ⟨r4, hx5, h'⟩ := bind_some h
  clear h
  have h := h'; clear h'
  have hc6 := c_laws_szItemS (aa_0 := aaList_0) (ca_0 := caList_0) hx5
  refine st_call (cx_call hc6 (ent_f hc6.fn rfl) hn0 (show Hp S0 σ0 _ ([Ch.ro 0 (Sl aaList_0 aList_0 caList_0) aList_0] ++ [Ch.bx n0 b1 0 [(I aF_1.1), (I aF_1.2.1), (I aF_1.2.2)] [] [], Ch.ro 0 (Sl aaList_0 aList_0 caList_0) aList_0, Ch.ro 0 (Sl aaAt_3 aAt_3 caAt_3) aAt_3]) from (H.sel' [1, 0, 1, 2] rfl rfl))) wn ?_
  rintro _ σ7 ⟨_, ⟨rfl, rfl⟩, H, -⟩
  replace H : Hp S0 σ0 σ7 [Ch.bx n0 b1 0 [(I aF_1.1), (I aF_1.2.1), (I aF_1.2.2)] [] [], Ch.ro 0 (Sl aaList_0 aList_0 caList_0) aList_0, Ch.ro 0 (Sl aaAt_3 aAt_3 caAt_3) aAt_3] := H
  refine st (v := (I r4)) (rv_assign rfl) ?_
  refine w_end ?_
  refine q_then ?_
  refine c_seq ?_
  refine c_seq ?_
  refine rg ?_
  refine st (v := (I r4)) (rv_move rfl) ?_
  refine st (v := (B (decide (r4 < 0)))) (rv_lss (a := r4) (b := 0) rfl rfl) ?_
  refine w_end ?_
  refine q_then ?_
  refine cd_cond (decide (r4 < 0)) rfl (fun hb8 => ?_) (fun hb8 => ?_)
  ·replace h := bif_t hb8 h
   refine c_seq ?_
   refine rg ?_
   refine st (v := (B true)) (rv_assign rfl) ?_
   refine w_end ?_
   refine q_then ?_
   refine c_ret ?_
   refine q_then_r ?_
   obtain rfl := Option.some.inj h
   exact fin_ret (v := (B true)) (results_ok Try.results10 (res_tmp (v := (B true)) rfl res_nil) rfl) ⟨rfl, rfl⟩ (H.sel' [] rfl rfl)
  ·replace h := bif_f hb8 h
   refine c_skip ?_
   refine q_then ?_
   refine c_seq ?_
   obtain ⟨r9, hx10, h'⟩ := bind_some h
   clear h
   have h := h'; clear h'
   have hc11 := c_laws_toItemS (aa_0 := aaList_0) (ca_0 := caList_0) hx10
   have hc16 := H.cells 0 rfl
   obtain ⟨r17, hx18, h'⟩ := bind_some h
   clear h
   have h := h'; clear h'
   have hc19 := c_laws_toFilter hx18
   obtain ⟨r20, hx21, h'⟩ := bind_some h
   clear h
   have h := h'; clear h'
   have hc22 := c_laws_toIntS (aa_0 := aaAt_3) (ca_0 := caAt_3) hx21
   have Hs := H
   refine rg2 (σ := σ7) (Nm := (Option Addr) × (Nat) × (List Ch) × (Option Addr) × (Nat)) 8 [1, 3, 6] [[false, false, false], [true, false, false], [true, true, false], [true, true, true]] [[(0, 0)], [(0, 1)], [(0, 0), (1, 1)], [(1, 2)], [(0, 0), (1, 1), (2, 2), (3, 3)], [(0, 0), (1, 1), (2, 2)], [(2, 3)], [(0, 0), (1, 1), (2, 2), (3, 3)]] 3 [fun ((a12, c13, K14, a23, c24) : (Option Addr) × (Nat) × (List Ch) × (Option Addr) × (Nat)) => fun σm => Hp S0 σ0 σm [Ch.bx n0 b1 0 [(I aF_1.1), (I aF_1.2.1), (I aF_1.2.2)] [] [], Ch.ro 0 (Sl aaList_0 aList_0 caList_0) aList_0, Ch.ro 0 (Sl aaAt_3 aAt_3 caAt_3) aAt_3] ∧ Md (cov []) σ7 σm, fun ((a12, c13, K14, a23, c24) : (Option Addr) × (Nat) × (List Ch) × (Option Addr) × (Nat)) => fun σm => Hp S0 σ0 σm [Ch.big K14, Ch.bx n0 b1 0 [(I aF_1.1), (I aF_1.2.1), (I aF_1.2.2)] [] [], Ch.ro 0 (Sl aaList_0 aList_0 caList_0) aList_0, Ch.ro 0 (Sl aaAt_3 aAt_3 caAt_3) aAt_3] ∧ Md (cov []) σ7 σm ∧ Dp n0 (Sl a12 r9 c13) r9 K14, fun ((a12, c13, K14, a23, c24) : (Option Addr) × (Nat) × (List Ch) × (Option Addr) × (Nat)) => fun σm => Hp S0 σ0 σm [Ch.big K14, Ch.bx n0 b1 0 [(I aF_1.1), (I aF_1.2.1), (I aF_1.2.2)] [] [], Ch.ro 0 (Sl aaList_0 aList_0 caList_0) aList_0, Ch.ro 0 (Sl aaAt_3 aAt_3 caAt_3) aAt_3] ∧ Md (cov []) σ7 σm ∧ Dp n0 (Sl a12 r9 c13) r9 K14, fun ((a12, c13, K14, a23, c24) : (Option Addr) × (Nat) × (List Ch) × (Option Addr) × (Nat)) => fun σm => Hp S0 σ0 σm [Ch.own n0 n0 (Sl a23 r20 c24) r20, Ch.big K14, Ch.bx n0 b1 0 [(I aF_1.1), (I aF_1.2.1), (I aF_1.2.2)] [] [], Ch.ro 0 (Sl aaList_0 aList_0 caList_0) aList_0, Ch.ro 0 (Sl aaAt_3 aAt_3 caAt_3) aAt_3] ∧ Md (cov []) σ7 σm ∧ Dp n0 (Sl a12 r9 c13) r9 K14 ∧ c24 = r20.length] [fun ((a12, c13, K14, a23, c24) : (Option Addr) × (Nat) × (List Ch) × (Option Addr) × (Nat)) => (Sl aaList_0 aList_0 caList_0), fun ((a12, c13, K14, a23, c24) : (Option Addr) × (Nat) × (List Ch) × (Option Addr) × (Nat)) => (Sl a12 r9 c13), fun ((a12, c13, K14, a23, c24) : (Option Addr) × (Nat) × (List Ch) × (Option Addr) × (Nat)) => (.agg #[(I aF_1.1), (I aF_1.2.1), (I aF_1.2.2)]), fun ((a12, c13, K14, a23, c24) : (Option Addr) × (Nat) × (List Ch) × (Option Addr) × (Nat)) => (.agg #[(I r17.1), (I r17.2.1), (I r17.2.2)]), fun ((a12, c13, K14, a23, c24) : (Option Addr) × (Nat) × (List Ch) × (Option Addr) × (Nat)) => (I aKind_2), fun ((a12, c13, K14, a23, c24) : (Option Addr) × (Nat) × (List Ch) × (Option Addr) × (Nat)) => (Sl aaAt_3 aAt_3 caAt_3), fun ((a12, c13, K14, a23, c24) : (Option Addr) × (Nat) × (List Ch) × (Option Addr) × (Nat)) => (Sl a23 r20 c24), fun ((a12, c13, K14, a23, c24) : (Option Addr) × (Nat) × (List Ch) × (Option Addr) × (Nat)) => (I aK_4)] (none, 0, [], none, 0) (by kernel_rfl) (by kernel_rfl) ?_ ?_ ?_
   ·intro σm m0
    exact ⟨H.grow (m0.mono fun _ h => h.elim), m0⟩
   ·refine ac rfl (by
      intro k; rintro ⟨a12, c13, K14, a23, c24⟩ ρ σm hJ hoff hdep
      have e0 := look_off (N := 108) (hoff 0 rfl) rfl
      exact dp_v (v := (Sl aaList_0 aList_0 caList_0)) wn (rv_move e0) rfl hJ) ?_
    refine all_cons (by
      refine ⟨?_, ?_⟩
      ·rintro ⟨a12, c13, K14, a23, c24⟩ ρ σm hJ hoff hdep
       have e28 : look 108 ρ 28 = (Sl aaList_0 aList_0 caList_0) := hdep 0 rfl rfl 28 rfl
       obtain ⟨H, m⟩ := id hJ
       refine dp_cx wn (cx_call hc11 (ent_f hc11.fn (by show [look 108 ρ 28] = _; rw [e28])) hn0 (show Hp S0 σ0 _ ([Ch.ro 0 (Sl aaList_0 aList_0 caList_0) aList_0] ++ [Ch.bx n0 b1 0 [(I aF_1.1), (I aF_1.2.1), (I aF_1.2.2)] [] [], Ch.ro 0 (Sl aaList_0 aList_0 caList_0) aList_0, Ch.ro 0 (Sl aaAt_3 aAt_3 caAt_3) aAt_3]) from (H.sel' [1, 0, 1, 2] rfl rfl))) ?_
       rintro _ σq ⟨_, ⟨a12x, c13x, K14x, rfl, rfl, hK15⟩, H2, m2⟩
       exact ⟨_, (a12x, c13x, K14x, a23, c24), rfl, rfl, ⟨H2.sel' [0, 1, 2, 3] rfl rfl, m.comp0 (m2.mono (fun i h => by simp [cov, Ch.ro] at h)), hK15⟩, stab [0, 2, 4, 5, 7] (by kernel_rfl) ⟨rfl, rfl, rfl, rfl, rfl, trivial⟩⟩
      trivial) ?_
    refine all_cons (by
      refine ⟨?_, ?_⟩
      ·rintro ⟨a12, c13, K14, a23, c24⟩ ρ σm hJ hoff hdep
       have e6 := look_off (N := 108) (hoff 6 rfl) rfl
       obtain ⟨H, m⟩ := id hJ
       have hc16 := H.cells 0 rfl
       exact dp_v (v := (.agg #[(I aF_1.1), (I aF_1.2.1), (I aF_1.2.2)])) wn (rv_load (cs := [(I aF_1.1), (I aF_1.2.1), (I aF_1.2.2)]) Try.underlying50 rfl ti50 e6 rfl hc16) rfl hJ
      refine ⟨?_, ?_⟩
      ·rintro ⟨a12, c13, K14, a23, c24⟩ ρ σm hJ hoff hdep
       have e6 := look_off (N := 108) (hoff 6 rfl) rfl
       obtain ⟨H, m, hK15⟩ := id hJ
       have hc16 := H.cells 1 rfl
       exact dp_v (v := (.agg #[(I aF_1.1), (I aF_1.2.1), (I aF_1.2.2)])) wn (rv_load (cs := [(I aF_1.1), (I aF_1.2.1), (I aF_1.2.2)]) Try.underlying50 rfl ti50 e6 rfl hc16) rfl hJ
      trivial) ?_
    refine all_cons (by
      refine ⟨?_, ?_⟩
      ·rintro ⟨a12, c13, K14, a23, c24⟩ ρ σm hJ hoff hdep
       have e30 : look 108 ρ 30 = (.agg #[(I aF_1.1), (I aF_1.2.1), (I aF_1.2.2)]) := hdep 2 rfl rfl 30 rfl
       obtain ⟨H, m, hK15⟩ := id hJ
       refine dp_cx wn (cx_call hc19 (ent_f hc19.fn (by show [look 108 ρ 30] = _; rw [e30])) hn0 (show Hp S0 σ0 _ ([] ++ [Ch.big K14, Ch.bx n0 b1 0 [(I aF_1.1), (I aF_1.2.1), (I aF_1.2.2)] [] [], Ch.ro 0 (Sl aaList_0 aList_0 caList_0) aList_0, Ch.ro 0 (Sl aaAt_3 aAt_3 caAt_3) aAt_3]) from (H.sel' [0, 1, 2, 3] rfl rfl))) ?_
       rintro _ σq ⟨_, ⟨rfl, rfl⟩, H2, m2⟩
       exact ⟨_, (a12, c13, K14, a23, c24), rfl, rfl, ⟨H2.sel' [0, 1, 2, 3] rfl rfl, m.comp0 m2, hK15⟩, stab [0, 1, 2, 4, 5, 7] (by kernel_rfl) ⟨rfl, rfl, rfl, rfl, rfl, rfl, trivial⟩⟩
      trivial) ?_
    refine ac rfl (by
      intro k; rintro ⟨a12, c13, K14, a23, c24⟩ ρ σm hJ hoff hdep
      have e2 := look_off (N := 108) (hoff 2 rfl) rfl
      exact dp_v (v := (I aKind_2)) wn (rv_move e2) rfl hJ) ?_
    refine ac rfl (by
      intro k; rintro ⟨a12, c13, K14, a23, c24⟩ ρ σm hJ hoff hdep
      have e3 := look_off (N := 108) (hoff 3 rfl) rfl
      exact dp_v (v := (Sl aaAt_3 aAt_3 caAt_3)) wn (rv_move e3) rfl hJ) ?_
    refine all_cons (by
      refine ⟨?_, ?_⟩
      ·rintro ⟨a12, c13, K14, a23, c24⟩ ρ σm hJ hoff hdep
       have e33 : look 108 ρ 33 = (Sl aaAt_3 aAt_3 caAt_3) := hdep 5 rfl rfl 33 rfl
       obtain ⟨H, m, hK15⟩ := id hJ
       refine dp_cx wn (cx_call hc22 (ent_f hc22.fn (by show [look 108 ρ 33] = _; rw [e33])) hn0 (show Hp S0 σ0 _ ([Ch.ro 0 (Sl aaAt_3 aAt_3 caAt_3) aAt_3] ++ [Ch.big K14, Ch.bx n0 b1 0 [(I aF_1.1), (I aF_1.2.1), (I aF_1.2.2)] [] [], Ch.ro 0 (Sl aaList_0 aList_0 caList_0) aList_0, Ch.ro 0 (Sl aaAt_3 aAt_3 caAt_3) aAt_3]) from (H.sel' [3, 0, 1, 2, 3] rfl rfl))) ?_
       rintro _ σq ⟨_, ⟨a23x, c24x, rfl, rfl, ht25⟩, H2, m2⟩
       exact ⟨_, (a12, c13, K14, a23x, c24x), rfl, rfl, ⟨H2.sel' [0, 1, 2, 3, 4] rfl rfl, m.comp0 (m2.mono (fun i h => by simp [cov, Ch.ro] at h)), hK15, ht25⟩, stab [0, 1, 2, 3, 4, 5, 7] (by kernel_rfl) ⟨rfl, rfl, rfl, rfl, rfl, rfl, rfl, trivial⟩⟩
      trivial) ?_
    refine ac rfl (by
      intro k; rintro ⟨a12, c13, K14, a23, c24⟩ ρ σm hJ hoff hdep
      have e4 := look_off (N := 108) (hoff 4 rfl) rfl
      exact dp_v (v := (I aK_4)) wn (rv_move e4) rfl hJ) ?_
    exact all_nil
   ·rintro ⟨a12, c13, K14, a23, c24⟩ ρ σ26 hJ hoff hrel
    have e0 := look_off (N := 108) (hoff 0 rfl) rfl
    have e2 := look_off (N := 108) (hoff 2 rfl) rfl
    have e3 := look_off (N := 108) (hoff 3 rfl) rfl
    have e4 := look_off (N := 108) (hoff 4 rfl) rfl
    have e6 := look_off (N := 108) (hoff 6 rfl) rfl
    have e29 := hrel 1 rfl 29 rfl
    have e31 := hrel 3 rfl 31 rfl
    have e32 := hrel 4 rfl 32 rfl
    have e34 := hrel 6 rfl 34 rfl
    have e35 := hrel 7 rfl 35 rfl
    obtain ⟨H, -, hK15, ht25⟩ := (show Hp S0 σ0 σ26 [Ch.own n0 n0 (Sl a23 r20 c24) r20, Ch.big K14, Ch.bx n0 b1 0 [(I aF_1.1), (I aF_1.2.1), (I aF_1.2.2)] [] [], Ch.ro 0 (Sl aaList_0 aList_0 caList_0) aList_0, Ch.ro 0 (Sl aaAt_3 aAt_3 caAt_3) aAt_3] ∧ Md (cov []) σ7 σ26 ∧ Dp n0 (Sl a12 r9 c13) r9 K14 ∧ c24 = r20.length from hJ)
    clear hJ Hs
    rw [fr_lookL (L := [(0, (Sl aaList_0 aList_0 caList_0)), (2, (I aKind_2)), (3, (Sl aaAt_3 aAt_3 caAt_3)), (4, (I aK_4)), (6, (pt b1 0)), (29, (Sl a12 r9 c13)), (31, (.agg #[(I r17.1), (I r17.2.1), (I r17.2.2)])), (32, (I aKind_2)), (34, (Sl a23 r20 c24)), (35, (I aK_4))]) ⟨e0, e2, e3, e4, e6, e29, e31, e32, e34, e35, trivial⟩]
    clear hoff hrel e0 e2 e3 e4 e6 e29 e31 e32 e34 e35
    obtain ⟨σ27, hw28, H, -⟩ := H.pub 0 rfl (Nat.le_refl _)
    rw [← hw28]; clear hw28
    replace H := H.roLow 0 0 rfl (Nat.zero_le _)
    obtain ⟨r29, hx30, h'⟩ := bind_some h
    clear h
    have h := h'; clear h'
    have hc31 := c_spec_FilterNearest (alist_0 := a12) (clist_0 := c13) (aat_3 := a23) (cat_3 := c24) hx30
    have hle := Nat.le_trans hn0 H.size
    refine st_call (cx_lend (Loan.lendB hK15.lends (Loan.same Loan.nil)) hc31 (ent_f hc31.fn rfl) (show Hp S0 σ0 _ ([Ch.big K14] ++ ([Ch.ro 0 (Sl a23 r20 c24) r20] ++ [Ch.ro 0 (Sl a23 r20 c24) r20, Ch.ro n0 (Sl a23 r20 c24) r20, Ch.bx n0 b1 0 [(I aF_1.1), (I aF_1.2.1), (I aF_1.2.2)] [] [], Ch.ro 0 (Sl aaList_0 aList_0 caList_0) aList_0, Ch.ro 0 (Sl aaAt_3 aAt_3 caAt_3) aAt_3])) from (H.sel' [2, 0, 0, 1, 3, 4, 5] rfl rfl)) (by rintro _ _ _ ⟨_, _, rfl, rfl⟩; exact ⟨Ab.ownSc, trivial⟩)) wn ?_
    rintro _ σ34 ⟨_, ⟨a32, c33, rfl, rfl⟩, H, -, -⟩
    replace H : Hp S0 σ0 σ34 [Ch.own σ27.size σ27.size (Sl a32 r29 c33) r29, Ch.big K14, Ch.ro 0 (Sl a23 r20 c24) r20, Ch.ro n0 (Sl a23 r20 c24) r20, Ch.bx n0 b1 0 [(I aF_1.1), (I aF_1.2.1), (I aF_1.2.2)] [] [], Ch.ro 0 (Sl aaList_0 aList_0 caList_0) aList_0, Ch.ro 0 (Sl aaAt_3 aAt_3 caAt_3) aAt_3] := H
    replace H := H.ownLow 0 n0 n0 rfl hle hle
    clear hle
    replace H : Hp S0 σ0 σ34 [Ch.own n0 n0 (Sl a32 r29 c33) r29, Ch.big K14, Ch.ro 0 (Sl a23 r20 c24) r20, Ch.ro n0 (Sl a23 r20 c24) r20, Ch.bx n0 b1 0 [(I aF_1.1), (I aF_1.2.1), (I aF_1.2.2)] [] [], Ch.ro 0 (Sl aaList_0 aList_0 caList_0) aList_0, Ch.ro 0 (Sl aaAt_3 aAt_3 caAt_3) aAt_3] := H
    refine st (v := (Sl a32 r29 c33)) (rv_assign rfl) ?_
    refine w_end ?_
    refine q_then ?_
    refine c_seq ?_
    refine rg ?_
    refine st (v := (Sl aaList_0 aList_0 caList_0)) (rv_move rfl) ?_
    obtain ⟨r35, hx36, h'⟩ := bind_some h
    clear h
    have h := h'; clear h'
    have hc37 := c_laws_toItemS (aa_0 := aaList_0) (ca_0 := caList_0) hx36
    refine st_call (cx_call hc37 (ent_f hc37.fn rfl) hn0 (show Hp S0 σ0 _ ([Ch.ro 0 (Sl aaList_0 aList_0 caList_0) aList_0] ++ [Ch.own n0 n0 (Sl a32 r29 c33) r29, Ch.big K14, Ch.ro 0 (Sl a23 r20 c24) r20, Ch.ro n0 (Sl a23 r20 c24) r20, Ch.bx n0 b1 0 [(I aF_1.1), (I aF_1.2.1), (I aF_1.2.2)] [] [], Ch.ro 0 (Sl aaList_0 aList_0 caList_0) aList_0, Ch.ro 0 (Sl aaAt_3 aAt_3 caAt_3) aAt_3]) from (H.sel' [5, 0, 1, 2, 3, 4, 5, 6] rfl rfl))) wn ?_
    rintro _ σ42 ⟨_, ⟨a38, c39, K40, rfl, rfl, hK41⟩, H, -⟩
    replace H : Hp S0 σ0 σ42 [Ch.big K40, Ch.own n0 n0 (Sl a32 r29 c33) r29, Ch.big K14, Ch.ro 0 (Sl a23 r20 c24) r20, Ch.ro n0 (Sl a23 r20 c24) r20, Ch.bx n0 b1 0 [(I aF_1.1), (I aF_1.2.1), (I aF_1.2.2)] [] [], Ch.ro 0 (Sl aaList_0 aList_0 caList_0) aList_0, Ch.ro 0 (Sl aaAt_3 aAt_3 caAt_3) aAt_3] := H
    replace H : Hp S0 σ0 σ42 [Ch.big K40, Ch.own n0 n0 (Sl a32 r29 c33) r29, Ch.bx n0 b1 0 [(I aF_1.1), (I aF_1.2.1), (I aF_1.2.2)] [] [], Ch.ro 0 (Sl aaList_0 aList_0 caList_0) aList_0, Ch.ro 0 (Sl aaAt_3 aAt_3 caAt_3) aAt_3] := H.sel' [0, 1, 5, 6, 7] rfl rfl
    refine st (v := (Sl a38 r35 c39)) (rv_assign rfl) ?_
    refine w_end ?_
    refine q_then ?_
    refine c_seq ?_
    refine rg ?_
    refine st (v := (Sl aaAt_3 aAt_3 caAt_3)) (rv_move rfl) ?_
    obtain ⟨r43, hx44, h'⟩ := bind_some h
    clear h
    have h := h'; clear h'
    have hc45 := c_laws_toIntS (aa_0 := aaAt_3) (ca_0 := caAt_3) hx44
    refine st_call (cx_call hc45 (ent_f hc45.fn rfl) hn0 (show Hp S0 σ0 _ ([Ch.ro 0 (Sl aaAt_3 aAt_3 caAt_3) aAt_3] ++ [Ch.big K40, Ch.own n0 n0 (Sl a32 r29 c33) r29, Ch.bx n0 b1 0 [(I aF_1.1), (I aF_1.2.1), (I aF_1.2.2)] [] [], Ch.ro 0 (Sl aaList_0 aList_0 caList_0) aList_0, Ch.ro 0 (Sl aaAt_3 aAt_3 caAt_3) aAt_3]) from (H.sel' [4, 0, 1, 2, 3, 4] rfl rfl))) wn ?_
    rintro _ σ49 ⟨_, ⟨a46, c47, rfl, rfl, ht48⟩, H, -⟩
    replace H : Hp S0 σ0 σ49 [Ch.own n0 n0 (Sl a46 r43 c47) r43, Ch.big K40, Ch.own n0 n0 (Sl a32 r29 c33) r29, Ch.bx n0 b1 0 [(I aF_1.1), (I aF_1.2.1), (I aF_1.2.2)] [] [], Ch.ro 0 (Sl aaList_0 aList_0 caList_0) aList_0, Ch.ro 0 (Sl aaAt_3 aAt_3 caAt_3) aAt_3] := H
    refine st (v := (Sl a46 r43 c47)) (rv_assign rfl) ?_
    refine w_end ?_
    refine q_then ?_
    refine c_seq ?_
    refine rg ?_
    refine st (v := (Sl a38 r35 c39)) (rv_move rfl) ?_
    have hc50 := H.cells 3 rfl
    refine st (v := (.agg #[(I aF_1.1), (I aF_1.2.1), (I aF_1.2.2)])) (rv_load (cs := [(I aF_1.1), (I aF_1.2.1), (I aF_1.2.2)]) Try.underlying50 rfl ti50 rfl rfl hc50) ?_
    obtain ⟨r51, hx52, h'⟩ := bind_some h
    clear h
    have h := h'; clear h'
    have hc53 := c_laws_toFilter hx52
    refine st_call (cx_call hc53 (ent_f hc53.fn rfl) hn0 (show Hp S0 σ0 _ ([] ++ [Ch.own n0 n0 (Sl a46 r43 c47) r43, Ch.big K40, Ch.own n0 n0 (Sl a32 r29 c33) r29, Ch.bx n0 b1 0 [(I aF_1.1), (I aF_1.2.1), (I aF_1.2.2)] [] [], Ch.ro 0 (Sl aaList_0 aList_0 caList_0) aList_0, Ch.ro 0 (Sl aaAt_3 aAt_3 caAt_3) aAt_3]) from (H.sel' [0, 1, 2, 3, 4, 5] rfl rfl))) wn ?_
    rintro _ σ54 ⟨_, ⟨rfl, rfl⟩, H, -⟩
    replace H : Hp S0 σ0 σ54 [Ch.own n0 n0 (Sl a46 r43 c47) r43, Ch.big K40, Ch.own n0 n0 (Sl a32 r29 c33) r29, Ch.bx n0 b1 0 [(I aF_1.1), (I aF_1.2.1), (I aF_1.2.2)] [] [], Ch.ro 0 (Sl aaList_0 aList_0 caList_0) aList_0, Ch.ro 0 (Sl aaAt_3 aAt_3 caAt_3) aAt_3] := H
    refine st (v := (I aKind_2)) (rv_move rfl) ?_
    refine st (v := (Sl a46 r43 c47)) (rv_move rfl) ?_
    refine st (v := (I aK_4)) (rv_move rfl) ?_
    obtain ⟨r55, hx56, h'⟩ := bind_some h
    clear h
    have h := h'; clear h'
    have hc57 := c_impl_FilterNearest (alist_0 := a38) (clist_0 := c39) (aat_3 := a46) (cat_3 := c47) hx56
    have hle := Nat.le_trans hn0 H.size
    refine st_call (cx_lend (Loan.lendB hK41.lends (Loan.lend Loan.nil)) hc57 (ent_f hc57.fn rfl) (show Hp S0 σ0 _ ([Ch.big K40, Ch.own n0 n0 (Sl a46 r43 c47) r43] ++ ([] ++ [Ch.own n0 n0 (Sl a32 r29 c33) r29, Ch.bx n0 b1 0 [(I aF_1.1), (I aF_1.2.1), (I aF_1.2.2)] [] [], Ch.ro 0 (Sl aaList_0 aList_0 caList_0) aList_0, Ch.ro 0 (Sl aaAt_3 aAt_3 caAt_3) aAt_3])) from (H.sel' [1, 0, 2, 3, 4, 5] rfl rfl)) (by rintro _ _ _ ⟨_, _, rfl, rfl⟩; exact ⟨Ab.ownSc, trivial⟩)) wn ?_
    rintro _ σ60 ⟨_, ⟨a58, c59, rfl, rfl⟩, H, -, -⟩
    replace H : Hp S0 σ0 σ60 [Ch.own 0 σ54.size (Sl a58 r55 c59) r55, Ch.big K40, Ch.own n0 n0 (Sl a46 r43 c47) r43, Ch.own n0 n0 (Sl a32 r29 c33) r29, Ch.bx n0 b1 0 [(I aF_1.1), (I aF_1.2.1), (I aF_1.2.2)] [] [], Ch.ro 0 (Sl aaList_0 aList_0 caList_0) aList_0, Ch.ro 0 (Sl aaAt_3 aAt_3 caAt_3) aAt_3] := H
    replace H := H.ownLow 0 0 n0 rfl (Nat.le_refl _) hle
    clear hle
    replace H : Hp S0 σ0 σ60 [Ch.own 0 n0 (Sl a58 r55 c59) r55, Ch.big K40, Ch.own n0 n0 (Sl a46 r43 c47) r43, Ch.own n0 n0 (Sl a32 r29 c33) r29, Ch.bx n0 b1 0 [(I aF_1.1), (I aF_1.2.1), (I aF_1.2.2)] [] [], Ch.ro 0 (Sl aaList_0 aList_0 caList_0) aList_0, Ch.ro 0 (Sl aaAt_3 aAt_3 caAt_3) aAt_3] := H
    refine st (v := (Sl a58 r55 c59)) (rv_assign rfl) ?_
    refine w_end ?_
    refine q_then ?_
    refine c_seq ?_
    refine c_seq ?_
    refine rg ?_
    refine st (v := (Sl a58 r55 c59)) (rv_move rfl) ?_
    refine st (v := (Sl a32 r29 c33)) (rv_move rfl) ?_
    obtain ⟨r61, hx62, h'⟩ := bind_some h
    clear h
    have h := h'; clear h'
    have hc63 := c_laws_eqHitS (aa_0 := a58) (ca_0 := c59) (ab_1 := a32) (cb_1 := c33) hx62
    have hle := Nat.le_trans hn0 H.size
    refine st_call (cx_lend (Loan.lend (Loan.lend Loan.nil)) hc63 (ent_f hc63.fn rfl) (show Hp S0 σ0 _ ([Ch.own 0 n0 (Sl a58 r55 c59) r55, Ch.own n0 n0 (Sl a32 r29 c33) r29] ++ ([] ++ [Ch.big K40, Ch.own n0 n0 (Sl a46 r43 c47) r43, Ch.bx n0 b1 0 [(I aF_1.1), (I aF_1.2.1), (I aF_1.2.2)] [] [], Ch.ro 0 (Sl aaList_0 aList_0 caList_0) aList_0, Ch.ro 0 (Sl aaAt_3 aAt_3 caAt_3) aAt_3])) from (H.sel' [0, 3, 1, 2, 4, 5, 6] rfl rfl)) (by rintro _ _ _ ⟨rfl, rfl⟩; exact trivial)) wn ?_
    rintro _ σ64 ⟨_, ⟨rfl, rfl⟩, H, -, -⟩
    replace H : Hp S0 σ0 σ64 [Ch.own 0 n0 (Sl a58 r55 c59) r55, Ch.own n0 n0 (Sl a32 r29 c33) r29, Ch.big K40, Ch.own n0 n0 (Sl a46 r43 c47) r43, Ch.bx n0 b1 0 [(I aF_1.1), (I aF_1.2.1), (I aF_1.2.2)] [] [], Ch.ro 0 (Sl aaList_0 aList_0 caList_0) aList_0, Ch.ro 0 (Sl aaAt_3 aAt_3 caAt_3) aAt_3] := H
    clear hle
    replace H : Hp S0 σ0 σ64 [Ch.own 0 n0 (Sl a58 r55 c59) r55, Ch.own n0 n0 (Sl a32 r29 c33) r29, Ch.big K40, Ch.own n0 n0 (Sl a46 r43 c47) r43, Ch.bx n0 b1 0 [(I aF_1.1), (I aF_1.2.1), (I aF_1.2.2)] [] [], Ch.ro 0 (Sl aaList_0 aList_0 caList_0) aList_0, Ch.ro 0 (Sl aaAt_3 aAt_3 caAt_3) aAt_3] := H
    refine st (v := (B (!r61))) (rv_not rfl) ?_
    refine w_end ?_
    refine q_then ?_
    refine cd_cond (!r61) rfl (fun hb65 => ?_) (fun hb65 => ?_)
    ·replace h := bif_t hb65 h
     refine c_seq ?_
     refine rg ?_
     refine st (v := (B false)) (rv_assign rfl) ?_
     refine w_end ?_
     refine q_then ?_
     refine c_ret ?_
     refine q_then_r ?_
     obtain rfl := Option.some.inj h
     exact fin_ret (v := (B false)) (results_ok Try.results10 (res_tmp (v := (B false)) rfl res_nil) rfl) ⟨rfl, rfl⟩ (H.sel' [] rfl rfl)
    ·replace h := bif_f hb65 h
     refine c_skip ?_
     refine q_then ?_
     refine c_seq ?_
     refine c_seq ?_
     refine rg ?_
     refine st (v := (Sl a38 r35 c39)) (rv_move rfl) ?_
     refine st (v := (Sl aaList_0 aList_0 caList_0)) (rv_move rfl) ?_
     obtain ⟨r66, hx67, h'⟩ := bind_some h
     clear h
     have h := h'; clear h'
     have hc68 := c_laws_toItemS (aa_0 := aaList_0) (ca_0 := caList_0) hx67
     refine st_call (cx_call hc68 (ent_f hc68.fn rfl) hn0 (show Hp S0 σ0 _ ([Ch.ro 0 (Sl aaList_0 aList_0 caList_0) aList_0] ++ [Ch.own 0 n0 (Sl a58 r55 c59) r55, Ch.own n0 n0 (Sl a32 r29 c33) r29, Ch.big K40, Ch.own n0 n0 (Sl a46 r43 c47) r43, Ch.bx n0 b1 0 [(I aF_1.1), (I aF_1.2.1), (I aF_1.2.2)] [] [], Ch.ro 0 (Sl aaList_0 aList_0 caList_0) aList_0, Ch.ro 0 (Sl aaAt_3 aAt_3 caAt_3) aAt_3]) from (H.sel' [5, 0, 1, 2, 3, 4, 5, 6] rfl rfl))) wn ?_
     rintro _ σ73 ⟨_, ⟨a69, c70, K71, rfl, rfl, hK72⟩, H, -⟩
     replace H : Hp S0 σ0 σ73 [Ch.big K71, Ch.own 0 n0 (Sl a58 r55 c59) r55, Ch.own n0 n0 (Sl a32 r29 c33) r29, Ch.big K40, Ch.own n0 n0 (Sl a46 r43 c47) r43, Ch.bx n0 b1 0 [(I aF_1.1), (I aF_1.2.1), (I aF_1.2.2)] [] [], Ch.ro 0 (Sl aaList_0 aList_0 caList_0) aList_0, Ch.ro 0 (Sl aaAt_3 aAt_3 caAt_3) aAt_3] := H
     obtain ⟨r74, hx75, h'⟩ := bind_some h
     clear h
     have h := h'; clear h'
     have hc76 := c_laws_eqItemS (aa_0 := a38) (ca_0 := c39) (ab_1 := a69) (cb_1 := c70) hx75
     have hle := Nat.le_trans hn0 H.size
     refine st_call (cx_lend (Loan.lendB hK41.lends (Loan.lendB hK72.lends Loan.nil)) hc76 (ent_f hc76.fn rfl) (show Hp S0 σ0 _ ([Ch.big K40, Ch.big K71] ++ ([] ++ [Ch.own 0 n0 (Sl a58 r55 c59) r55, Ch.own n0 n0 (Sl a32 r29 c33) r29, Ch.own n0 n0 (Sl a46 r43 c47) r43, Ch.bx n0 b1 0 [(I aF_1.1), (I aF_1.2.1), (I aF_1.2.2)] [] [], Ch.ro 0 (Sl aaList_0 aList_0 caList_0) aList_0, Ch.ro 0 (Sl aaAt_3 aAt_3 caAt_3) aAt_3])) from (H.sel' [3, 0, 1, 2, 4, 5, 6, 7] rfl rfl)) (by rintro _ _ _ ⟨rfl, rfl⟩; exact trivial)) wn ?_
     rintro _ σ77 ⟨_, ⟨rfl, rfl⟩, H, -, -⟩
     replace H : Hp S0 σ0 σ77 [Ch.big K40, Ch.big K71, Ch.own 0 n0 (Sl a58 r55 c59) r55, Ch.own n0 n0 (Sl a32 r29 c33) r29, Ch.own n0 n0 (Sl a46 r43 c47) r43, Ch.bx n0 b1 0 [(I aF_1.1), (I aF_1.2.1), (I aF_1.2.2)] [] [], Ch.ro 0 (Sl aaList_0 aList_0 caList_0) aList_0, Ch.ro 0 (Sl aaAt_3 aAt_3 caAt_3) aAt_3] := H
     clear hle
     replace H : Hp S0 σ0 σ77 [Ch.big K40, Ch.big K71, Ch.own 0 n0 (Sl a58 r55 c59) r55, Ch.own n0 n0 (Sl a32 r29 c33) r29, Ch.own n0 n0 (Sl a46 r43 c47) r43, Ch.bx n0 b1 0 [(I aF_1.1), (I aF_1.2.1), (I aF_1.2.2)] [] [], Ch.ro 0 (Sl aaList_0 aList_0 caList_0) aList_0, Ch.ro 0 (Sl aaAt_3 aAt_3 caAt_3) aAt_3] := H
     replace H : Hp S0 σ0 σ77 [Ch.big K40, Ch.own 0 n0 (Sl a58 r55 c59) r55, Ch.own n0 n0 (Sl a32 r29 c33) r29, Ch.own n0 n0 (Sl a46 r43 c47) r43, Ch.bx n0 b1 0 [(I aF_1.1), (I aF_1.2.1), (I aF_1.2.2)] [] [], Ch.ro 0 (Sl aaList_0 aList_0 caList_0) aList_0, Ch.ro 0 (Sl aaAt_3 aAt_3 caAt_3) aAt_3] := H.sel' [0, 2, 3, 4, 5, 6, 7] rfl rfl
     refine st (v := (B (!r74))) (rv_not rfl) ?_
     refine w_end ?_
     refine q_then ?_
     refine cd_cond (!r74) rfl (fun hb78 => ?_) (fun hb78 => ?_)
     ·replace h := bif_t hb78 h
      refine c_seq ?_
      refine rg ?_
      refine st (v := (B false)) (rv_assign rfl) ?_
      refine w_end ?_
      refine q_then ?_
      refine c_ret ?_
      refine q_then_r ?_
      obtain rfl := Option.some.inj h
      exact fin_ret (v := (B false)) (results_ok Try.results10 (res_tmp (v := (B false)) rfl res_nil) rfl) ⟨rfl, rfl⟩ (H.sel' [] rfl rfl)
     ·replace h := bif_f hb78 h
      refine c_skip ?_
      refine q_then ?_
      refine c_seq ?_
      refine c_seq ?_
      refine rg ?_
      refine st (v := (Sl a46 r43 c47)) (rv_move rfl) ?_
      refine st (v := (Sl aaAt_3 aAt_3 caAt_3)) (rv_move rfl) ?_
      obtain ⟨r79, hx80, h'⟩ := bind_some h
      clear h
      have h := h'; clear h'
      have hc81 := c_laws_toIntS (aa_0 := aaAt_3) (ca_0 := caAt_3) hx80
      refine st_call (cx_call hc81 (ent_f hc81.fn rfl) hn0 (show Hp S0 σ0 _ ([Ch.ro 0 (Sl aaAt_3 aAt_3 caAt_3) aAt_3] ++ [Ch.big K40, Ch.own 0 n0 (Sl a58 r55 c59) r55, Ch.own n0 n0 (Sl a32 r29 c33) r29, Ch.own n0 n0 (Sl a46 r43 c47) r43, Ch.bx n0 b1 0 [(I aF_1.1), (I aF_1.2.1), (I aF_1.2.2)] [] [], Ch.ro 0 (Sl aaList_0 aList_0 caList_0) aList_0, Ch.ro 0 (Sl aaAt_3 aAt_3 caAt_3) aAt_3]) from (H.sel' [6, 0, 1, 2, 3, 4, 5, 6] rfl rfl))) wn ?_
      rintro _ σ85 ⟨_, ⟨a82, c83, rfl, rfl, ht84⟩, H, -⟩
      replace H : Hp S0 σ0 σ85 [Ch.own n0 n0 (Sl a82 r79 c83) r79, Ch.big K40, Ch.own 0 n0 (Sl a58 r55 c59) r55, Ch.own n0 n0 (Sl a32 r29 c33) r29, Ch.own n0 n0 (Sl a46 r43 c47) r43, Ch.bx n0 b1 0 [(I aF_1.1), (I aF_1.2.1), (I aF_1.2.2)] [] [], Ch.ro 0 (Sl aaList_0 aList_0 caList_0) aList_0, Ch.ro 0 (Sl aaAt_3 aAt_3 caAt_3) aAt_3] := H
      obtain ⟨σ86, hw87, H, -⟩ := H.pub 0 rfl (Nat.le_refl _)
      rw [← hw87]; clear hw87
      replace H := H.roLow 0 0 rfl (Nat.zero_le _)
      obtain ⟨r88, hx89, h'⟩ := bind_some h
      clear h
      have h := h'; clear h'
      have hc90 := c_laws_eqIntS (aa_0 := a46) (ca_0 := c47) (ab_1 := a82) (cb_1 := c83) hx89
      have hle := Nat.le_trans hn0 H.size
      refine st_call (cx_lend (Loan.lend (Loan.same Loan.nil)) hc90 (ent_f hc90.fn rfl) (show Hp S0 σ0 _ ([Ch.own n0 n0 (Sl a46 r43 c47) r43] ++ ([Ch.ro 0 (Sl a82 r79 c83) r79] ++ [Ch.ro 0 (Sl a82 r79 c83) r79, Ch.ro n0 (Sl a82 r79 c83) r79, Ch.big K40, Ch.own 0 n0 (Sl a58 r55 c59) r55, Ch.own n0 n0 (Sl a32 r29 c33) r29, Ch.bx n0 b1 0 [(I aF_1.1), (I aF_1.2.1), (I aF_1.2.2)] [] [], Ch.ro 0 (Sl aaList_0 aList_0 caList_0) aList_0, Ch.ro 0 (Sl aaAt_3 aAt_3 caAt_3) aAt_3])) from (H.sel' [5, 0, 0, 1, 2, 3, 4, 6, 7, 8] rfl rfl)) (by rintro _ _ _ ⟨rfl, rfl⟩; exact trivial)) wn ?_
      rintro _ σ91 ⟨_, ⟨rfl, rfl⟩, H, -, -⟩
      replace H : Hp S0 σ0 σ91 [Ch.own n0 n0 (Sl a46 r43 c47) r43, Ch.ro 0 (Sl a82 r79 c83) r79, Ch.ro n0 (Sl a82 r79 c83) r79, Ch.big K40, Ch.own 0 n0 (Sl a58 r55 c59) r55, Ch.own n0 n0 (Sl a32 r29 c33) r29, Ch.bx n0 b1 0 [(I aF_1.1), (I aF_1.2.1), (I aF_1.2.2)] [] [], Ch.ro 0 (Sl aaList_0 aList_0 caList_0) aList_0, Ch.ro 0 (Sl aaAt_3 aAt_3 caAt_3) aAt_3] := H
      clear hle
      replace H : Hp S0 σ0 σ91 [Ch.own n0 n0 (Sl a46 r43 c47) r43, Ch.ro 0 (Sl a82 r79 c83) r79, Ch.ro n0 (Sl a82 r79 c83) r79, Ch.big K40, Ch.own 0 n0 (Sl a58 r55 c59) r55, Ch.own n0 n0 (Sl a32 r29 c33) r29, Ch.bx n0 b1 0 [(I aF_1.1), (I aF_1.2.1), (I aF_1.2.2)] [] [], Ch.ro 0 (Sl aaList_0 aList_0 caList_0) aList_0, Ch.ro 0 (Sl aaAt_3 aAt_3 caAt_3) aAt_3] := H
      replace H : Hp S0 σ0 σ91 [Ch.own n0 n0 (Sl a46 r43 c47) r43, Ch.big K40, Ch.own 0 n0 (Sl a58 r55 c59) r55, Ch.own n0 n0 (Sl a32 r29 c33) r29, Ch.bx n0 b1 0 [(I aF_1.1), (I aF_1.2.1), (I aF_1.2.2)] [] [], Ch.ro 0 (Sl aaList_0 aList_0 caList_0) aList_0, Ch.ro 0 (Sl aaAt_3 aAt_3 caAt_3) aAt_3] := H.sel' [0, 3, 4, 5, 6, 7, 8] rfl rfl
      refine st (v := (B (!r88))) (rv_not rfl) ?_
      refine w_end ?_
      refine q_then ?_
      refine cd_cond (!r88) rfl (fun hb92 => ?_) (fun hb92 => ?_)
      ·replace h := bif_t hb92 h
       refine c_seq ?_
       refine rg ?_
       refine st (v := (B false)) (rv_assign rfl) ?_
       refine w_end ?_
       refine q_then ?_
       refine c_ret ?_
       refine q_then_r ?_
       obtain rfl := Option.some.inj h
       exact fin_ret (v := (B false)) (results_ok Try.results10 (res_tmp (v := (B false)) rfl res_nil) rfl) ⟨rfl, rfl⟩ (H.sel' [] rfl rfl)
      ·replace h := bif_f hb92 h
       refine c_skip ?_
       refine q_then ?_
       refine c_seq ?_
       refine rg ?_
       refine st (v := (I 1)) (rv_assign rfl) ?_
       refine w_end ?_
       refine q_then ?_
       refine c_seq ?_
       refine rg ?_
       refine st (v := (Sl a38 r35 c39)) (rv_move rfl) ?_
       refine st (v := (I 1)) (rv_move rfl) ?_
       obtain ⟨r93, hx94, h'⟩ := bind_some h
       clear h
       have h := h'; clear h'
       have hc95 := c_laws_markItemS (aa_0 := a38) (ca_0 := c39) (hK := hK41) hx94
       refine st_call (cx_call hc95 (ent_f hc95.fn rfl) hn0 (show Hp S0 σ0 _ ([Ch.big K40] ++ [Ch.own n0 n0 (Sl a46 r43 c47) r43, Ch.own 0 n0 (Sl a58 r55 c59) r55, Ch.own n0 n0 (Sl a32 r29 c33) r29, Ch.bx n0 b1 0 [(I aF_1.1), (I aF_1.2.1), (I aF_1.2.2)] [] [], Ch.ro 0 (Sl aaList_0 aList_0 caList_0) aList_0, Ch.ro 0 (Sl aaAt_3 aAt_3 caAt_3) aAt_3]) from (H.sel' [1, 0, 2, 3, 4, 5, 6] rfl rfl))) wn ?_
       rintro _ σ96 ⟨_, ⟨rfl, rfl⟩, H, -⟩
       replace H : Hp S0 σ0 σ96 [Ch.own n0 n0 (Sl a46 r43 c47) r43, Ch.own 0 n0 (Sl a58 r55 c59) r55, Ch.own n0 n0 (Sl a32 r29 c33) r29, Ch.bx n0 b1 0 [(I aF_1.1), (I aF_1.2.1), (I aF_1.2.2)] [] [], Ch.ro 0 (Sl aaList_0 aList_0 caList_0) aList_0, Ch.ro 0 (Sl aaAt_3 aAt_3 caAt_3) aAt_3] := H
       refine st (v := (I r93)) (rv_assign rfl) ?_
       refine w_end ?_
       refine q_then ?_
       refine c_seq ?_
       refine rg ?_
       refine st (v := (Sl a46 r43 c47)) (rv_move rfl) ?_
       refine st (v := (I r93)) (rv_move rfl) ?_
       replace H := H.ownLow 0 0 0 rfl (Nat.zero_le _) (Nat.zero_le _)
       obtain ⟨r97, hx98, h'⟩ := bind_some h
       clear h
       have h := h'; clear h'
       have hc99 := c_laws_markIntS (aa_0 := a46) (ca_0 := c47) hx98
       refine st_call (cx_call hc99 (ent_f hc99.fn rfl) hn0 (show Hp S0 σ0 _ ([Ch.own 0 0 (Sl a46 r43 c47) r43] ++ [Ch.own 0 n0 (Sl a58 r55 c59) r55, Ch.own n0 n0 (Sl a32 r29 c33) r29, Ch.bx n0 b1 0 [(I aF_1.1), (I aF_1.2.1), (I aF_1.2.2)] [] [], Ch.ro 0 (Sl aaList_0 aList_0 caList_0) aList_0, Ch.ro 0 (Sl aaAt_3 aAt_3 caAt_3) aAt_3]) from (H.sel' [0, 1, 2, 3, 4, 5] rfl rfl))) wn ?_
       rintro _ σ101 ⟨_, ⟨rfl, rfl, hn100⟩, H, -⟩
       replace H : Hp S0 σ0 σ101 [Ch.own 0 0 (Sl a46 r97.2 c47) r97.2, Ch.own 0 n0 (Sl a58 r55 c59) r55, Ch.own n0 n0 (Sl a32 r29 c33) r29, Ch.bx n0 b1 0 [(I aF_1.1), (I aF_1.2.1), (I aF_1.2.2)] [] [], Ch.ro 0 (Sl aaList_0 aList_0 caList_0) aList_0, Ch.ro 0 (Sl aaAt_3 aAt_3 caAt_3) aAt_3] := H
       have hsl : (Sl a46 r43 c47) = (Sl a46 r97.2 c47) := sl_len hn100.symm
       try rw [hsl]
       try rw [hsl] at H
       clear hsl
       refine st (v := (I r97.1)) (rv_assign rfl) ?_
       refine w_end ?_
       refine q_then ?_
       refine c_seq ?_
       refine c_seq ?_
       obtain ⟨o102, hj, h'⟩ := bind_some h
       clear h
       refine c_cut (fun e a w => e = .normal ∧ ∃ (ρ : Nat → Value) (σ : St), a = fr 108 (updL ρ [(0, (Sl aaList_0 aList_0 caList_0)), (2, (I aKind_2)), (3, (Sl aaAt_3 aAt_3 caAt_3)), (4, (I aK_4)), (6, (pt b1 0)), (12, (Sl a32 r29 c33)), (15, (Sl a58 r55 c59)), (75, (B o102))]) ∧ w = σ.w ∧ Hp S0 σ0 σ [Ch.ro 0 (Sl aaList_0 aList_0 caList_0) aList_0, Ch.ro 0 (Sl aaAt_3 aAt_3 caAt_3) aAt_3, Ch.bx n0 b1 0 [(I aF_1.1), (I aF_1.2.1), (I aF_1.2.2)] [] [], Ch.own n0 n0 (Sl a32 r29 c33) r29, Ch.own 0 n0 (Sl a58 r55 c59) r55]) ?_ ?_
       ·clear h'
        rename _ = some o102 => h
        refine rg ?_
        refine st (v := (I r97.1)) (rv_move rfl) ?_
        refine st (v := (B (decide (r97.1 < 0)))) (rv_lss (a := r97.1) (b := 0) rfl rfl) ?_
        refine st (v := (B (decide (r97.1 < 0)))) (rv_move rfl) ?_
        rcases Bool.eq_false_or_eq_true (decide (r97.1 < 0)) with hb103 | hb103
        ·replace h := bif_t hb103 h
         refine st_skip (congrArg some hb103) ?_
         refine st_skip (congrArg some hb103) ?_
         refine st_skip (congrArg some hb103) ?_
         refine st_skip (congrArg some hb103) ?_
         refine st (v := (B true)) (rv_pick_t (congrArg B hb103) rfl) ?_
         refine w_end ?_
         obtain rfl := Option.some.inj h
         exact ⟨rfl, _, σ101, fr_join ⟨rfl, rfl, rfl, rfl, rfl, rfl, rfl, rfl, trivial⟩, rfl, H.sel' [4, 5, 3, 2, 1] rfl rfl⟩
        ·replace h := bif_f hb103 h
         refine st_g (v := (Sl a58 r55 c59)) (congrArg some hb103) (rv_move rfl) ?_
         refine st_g (v := (Sl a32 r29 c33)) (congrArg some hb103) (rv_move rfl) ?_
         obtain ⟨r104, hx105, h'⟩ := bind_some h
         clear h
         have h := h'; clear h'
         have hc106 := c_laws_eqHitS (aa_0 := a58) (ca_0 := c59) (ab_1 := a32) (cb_1 := c33) hx105
         have hle := Nat.le_trans hn0 H.size
         refine st_call (cx_lend (Loan.lend (Loan.lend Loan.nil)) hc106 (ent_f hc106.fn rfl) (show Hp S0 σ0 _ ([Ch.own 0 n0 (Sl a58 r55 c59) r55, Ch.own n0 n0 (Sl a32 r29 c33) r29] ++ ([] ++ [Ch.own 0 0 (Sl a46 r97.2 c47) r97.2, Ch.bx n0 b1 0 [(I aF_1.1), (I aF_1.2.1), (I aF_1.2.2)] [] [], Ch.ro 0 (Sl aaList_0 aList_0 caList_0) aList_0, Ch.ro 0 (Sl aaAt_3 aAt_3 caAt_3) aAt_3])) from (H.sel' [1, 2, 0, 3, 4, 5] rfl rfl)) (by rintro _ _ _ ⟨rfl, rfl⟩; exact trivial)) (wanted_yes rfl (by exact (congrArg some hb103))) ?_
         rintro _ σ107 ⟨_, ⟨rfl, rfl⟩, H, -, -⟩
         replace H : Hp S0 σ0 σ107 [Ch.own 0 n0 (Sl a58 r55 c59) r55, Ch.own n0 n0 (Sl a32 r29 c33) r29, Ch.own 0 0 (Sl a46 r97.2 c47) r97.2, Ch.bx n0 b1 0 [(I aF_1.1), (I aF_1.2.1), (I aF_1.2.2)] [] [], Ch.ro 0 (Sl aaList_0 aList_0 caList_0) aList_0, Ch.ro 0 (Sl aaAt_3 aAt_3 caAt_3) aAt_3] := H
         clear hle
         replace H : Hp S0 σ0 σ107 [Ch.own 0 n0 (Sl a58 r55 c59) r55, Ch.own n0 n0 (Sl a32 r29 c33) r29, Ch.own 0 0 (Sl a46 r97.2 c47) r97.2, Ch.bx n0 b1 0 [(I aF_1.1), (I aF_1.2.1), (I aF_1.2.2)] [] [], Ch.ro 0 (Sl aaList_0 aList_0 caList_0) aList_0, Ch.ro 0 (Sl aaAt_3 aAt_3 caAt_3) aAt_3] := H
         refine st_g (v := (B (!r104))) (congrArg some hb103) (rv_not rfl) ?_
         refine st (v := (B (!r104))) (rv_pick_f (congrArg B hb103) rfl) ?_
         refine w_end ?_
         obtain rfl := Option.some.inj h
         exact ⟨rfl, _, σ107, fr_join ⟨rfl, rfl, rfl, rfl, rfl, rfl, rfl, rfl, trivial⟩, rfl, H.sel' [4, 5, 3, 1, 0] rfl rfl⟩
       ·clear hj
        have h := h'
        clear h' H
        rintro e a w ⟨rfl, ρ, σ108, rfl, rfl, H⟩
        refine q_then ?_
        refine cd_cond o102 rfl (fun hb109 => ?_) (fun hb109 => ?_)
        ·replace h := bif_t hb109 h
         refine c_seq ?_
         refine rg ?_
         refine st (v := (B false)) (rv_assign rfl) ?_
         refine w_end ?_
         refine q_then ?_
         refine c_ret ?_
         refine q_then_r ?_
         obtain rfl := Option.some.inj h
         exact fin_ret (v := (B false)) (results_ok Try.results10 (res_tmp (v := (B false)) rfl res_nil) rfl) ⟨rfl, rfl⟩ (H.sel' [] rfl rfl)
        ·replace h := bif_f hb109 h
         refine c_skip ?_
         refine q_then ?_
         refine c_seq ?_
         refine rg ?_
         refine st (v := (I 1)) (rv_assign rfl) ?_
         refine w_end ?_
         refine q_then ?_
         refine c_seq ?_
         refine rg ?_
         refine st (v := (Sl a58 r55 c59)) (rv_move rfl) ?_
         refine st (v := (I 1)) (rv_move rfl) ?_
         replace H := H.ownLow 4 0 0 rfl (Nat.zero_le _) (Nat.zero_le _)
         obtain ⟨r110, hx111, h'⟩ := bind_some h
         clear h
         have h := h'; clear h'
         have hc112 := c_laws_markHitS (aa_0 := a58) (ca_0 := c59) hx111
         refine st_call (cx_call hc112 (ent_f hc112.fn rfl) hn0 (show Hp S0 σ0 _ ([Ch.own 0 0 (Sl a58 r55 c59) r55] ++ [Ch.ro 0 (Sl aaList_0 aList_0 caList_0) aList_0, Ch.ro 0 (Sl aaAt_3 aAt_3 caAt_3) aAt_3, Ch.bx n0 b1 0 [(I aF_1.1), (I aF_1.2.1), (I aF_1.2.2)] [] [], Ch.own n0 n0 (Sl a32 r29 c33) r29]) from (H.sel' [0, 1, 2, 3, 4] rfl rfl))) wn ?_
         rintro _ σ114 ⟨_, ⟨rfl, rfl, hn113⟩, H, -⟩
         replace H : Hp S0 σ0 σ114 [Ch.own 0 0 (Sl a58 r110.2 c59) r110.2, Ch.ro 0 (Sl aaList_0 aList_0 caList_0) aList_0, Ch.ro 0 (Sl aaAt_3 aAt_3 caAt_3) aAt_3, Ch.bx n0 b1 0 [(I aF_1.1), (I aF_1.2.1), (I aF_1.2.2)] [] [], Ch.own n0 n0 (Sl a32 r29 c33) r29] := H
         have hsl : (Sl a58 r55 c59) = (Sl a58 r110.2 c59) := sl_len hn113.symm
         try rw [hsl]
         try rw [hsl] at H
         clear hsl
         refine st (v := (I r110.1)) (rv_assign rfl) ?_
         refine w_end ?_
         refine q_then ?_
         refine c_seq ?_
         refine rg ?_
         refine st (v := (I 1)) (rv_assign rfl) ?_
         refine w_end ?_
         refine q_then ?_
         refine c_seq ?_
         refine rg ?_
         refine st (v := (Sl a58 r110.2 c59)) (rv_move rfl) ?_
         refine st (v := (I 1)) (rv_move rfl) ?_
         obtain ⟨r115, hx116, h'⟩ := bind_some h
         clear h
         have h := h'; clear h'
         have hc117 := c_laws_heldHitS (aa_0 := a58) (ca_0 := c59) hx116
         have hle := Nat.le_trans hn0 H.size
         refine st_call (cx_lend (Loan.lend Loan.nil) hc117 (ent_f hc117.fn rfl) (show Hp S0 σ0 _ ([Ch.own 0 0 (Sl a58 r110.2 c59) r110.2] ++ ([] ++ [Ch.ro 0 (Sl aaList_0 aList_0 caList_0) aList_0, Ch.ro 0 (Sl aaAt_3 aAt_3 caAt_3) aAt_3, Ch.bx n0 b1 0 [(I aF_1.1), (I aF_1.2.1), (I aF_1.2.2)] [] [], Ch.own n0 n0 (Sl a32 r29 c33) r29])) from (H.sel' [0, 1, 2, 3, 4] rfl rfl)) (by rintro _ _ _ ⟨rfl, rfl⟩; exact trivial)) wn ?_
         rintro _ σ118 ⟨_, ⟨rfl, rfl⟩, H, -, -⟩
         replace H : Hp S0 σ0 σ118 [Ch.own 0 0 (Sl a58 r110.2 c59) r110.2, Ch.ro 0 (Sl aaList_0 aList_0 caList_0) aList_0, Ch.ro 0 (Sl aaAt_3 aAt_3 caAt_3) aAt_3, Ch.bx n0 b1 0 [(I aF_1.1), (I aF_1.2.1), (I aF_1.2.2)] [] [], Ch.own n0 n0 (Sl a32 r29 c33) r29] := H
         clear hle
         replace H : Hp S0 σ0 σ118 [Ch.own 0 0 (Sl a58 r110.2 c59) r110.2, Ch.ro 0 (Sl aaList_0 aList_0 caList_0) aList_0, Ch.ro 0 (Sl aaAt_3 aAt_3 caAt_3) aAt_3, Ch.bx n0 b1 0 [(I aF_1.1), (I aF_1.2.1), (I aF_1.2.2)] [] [], Ch.own n0 n0 (Sl a32 r29 c33) r29] := H
         refine st (v := (I r115)) (rv_assign rfl) ?_
         refine w_end ?_
         refine q_then ?_
         refine c_seq ?_
         refine c_seq ?_
         refine rg ?_
         refine st (v := (I r115)) (rv_move rfl) ?_
         refine st (v := (B (decide (r115 < 0)))) (rv_lss (a := r115) (b := 0) rfl rfl) ?_
         refine w_end ?_
         refine q_then ?_
         refine cd_cond (decide (r115 < 0)) rfl (fun hb119 => ?_) (fun hb119 => ?_)
         ·replace h := bif_t hb119 h
          refine c_seq ?_
          refine rg ?_
          refine st (v := (B false)) (rv_assign rfl) ?_
          refine w_end ?_
          refine q_then ?_
          refine c_ret ?_
          refine q_then_r ?_
          obtain rfl := Option.some.inj h
          exact fin_ret (v := (B false)) (results_ok Try.results10 (res_tmp (v := (B false)) rfl res_nil) rfl) ⟨rfl, rfl⟩ (H.sel' [] rfl rfl)
         ·replace h := bif_f hb119 h
          refine c_skip ?_
          refine q_then ?_
          refine c_seq ?_
          refine c_seq ?_
          refine rg ?_
          refine st (v := (I r115)) (rv_move rfl) ?_
          refine st (v := (I r110.1)) (rv_move rfl) ?_
          refine st (v := (B (r115 != r110.1))) (rv_neq (a := r115) (b := r110.1) rfl rfl) ?_
          refine w_end ?_
          refine q_then ?_
          refine cd_cond (r115 != r110.1) rfl (fun hb120 => ?_) (fun hb120 => ?_)
          ·replace h := bif_t hb120 h
           refine c_seq ?_
           refine rg ?_
           refine st (v := (B false)) (rv_assign rfl) ?_
           refine w_end ?_
           refine q_then ?_
           refine c_ret ?_
           refine q_then_r ?_
           obtain rfl := Option.some.inj h
           exact fin_ret (v := (B false)) (results_ok Try.results10 (res_tmp (v := (B false)) rfl res_nil) rfl) ⟨rfl, rfl⟩ (H.sel' [] rfl rfl)
          ·replace h := bif_f hb120 h
           refine c_skip ?_
           refine q_then ?_
           refine c_seq ?_
           obtain ⟨r121, hx122, h'⟩ := bind_some h
           clear h
           have h := h'; clear h'
           have hc123 := c_laws_toItemS (aa_0 := aaList_0) (ca_0 := caList_0) hx122
           have hc128 := H.cells 3 rfl
           obtain ⟨r129, hx130, h'⟩ := bind_some h
           clear h
           have h := h'; clear h'
           have hc131 := c_laws_toFilter hx130
           obtain ⟨r132, hx133, h'⟩ := bind_some h
           clear h
           have h := h'; clear h'
           have hc134 := c_laws_toIntS (aa_0 := aaAt_3) (ca_0 := caAt_3) hx133
           have Hs := H
           refine rg2 (σ := σ118) (Nm := (Option Addr) × (Nat) × (List Ch) × (Option Addr) × (Nat)) 8 [1, 3, 6] [[false, false, false], [true, false, false], [true, true, false], [true, true, true]] [[(0, 0)], [(0, 1)], [(0, 0), (1, 1)], [(1, 2)], [(0, 0), (1, 1), (2, 2), (3, 3)], [(0, 0), (1, 1), (2, 2)], [(2, 3)], [(0, 0), (1, 1), (2, 2), (3, 3)]] 3 [fun ((a124, c125, K126, a135, c136) : (Option Addr) × (Nat) × (List Ch) × (Option Addr) × (Nat)) => fun σm => Hp S0 σ0 σm [Ch.own 0 0 (Sl a58 r110.2 c59) r110.2, Ch.ro 0 (Sl aaList_0 aList_0 caList_0) aList_0, Ch.ro 0 (Sl aaAt_3 aAt_3 caAt_3) aAt_3, Ch.bx n0 b1 0 [(I aF_1.1), (I aF_1.2.1), (I aF_1.2.2)] [] [], Ch.own n0 n0 (Sl a32 r29 c33) r29] ∧ Md (cov []) σ118 σm, fun ((a124, c125, K126, a135, c136) : (Option Addr) × (Nat) × (List Ch) × (Option Addr) × (Nat)) => fun σm => Hp S0 σ0 σm [Ch.big K126, Ch.own 0 0 (Sl a58 r110.2 c59) r110.2, Ch.ro 0 (Sl aaList_0 aList_0 caList_0) aList_0, Ch.ro 0 (Sl aaAt_3 aAt_3 caAt_3) aAt_3, Ch.bx n0 b1 0 [(I aF_1.1), (I aF_1.2.1), (I aF_1.2.2)] [] [], Ch.own n0 n0 (Sl a32 r29 c33) r29] ∧ Md (cov []) σ118 σm ∧ Dp n0 (Sl a124 r121 c125) r121 K126, fun ((a124, c125, K126, a135, c136) : (Option Addr) × (Nat) × (List Ch) × (Option Addr) × (Nat)) => fun σm => Hp S0 σ0 σm [Ch.big K126, Ch.own 0 0 (Sl a58 r110.2 c59) r110.2, Ch.ro 0 (Sl aaList_0 aList_0 caList_0) aList_0, Ch.ro 0 (Sl aaAt_3 aAt_3 caAt_3) aAt_3, Ch.bx n0 b1 0 [(I aF_1.1), (I aF_1.2.1), (I aF_1.2.2)] [] [], Ch.own n0 n0 (Sl a32 r29 c33) r29] ∧ Md (cov []) σ118 σm ∧ Dp n0 (Sl a124 r121 c125) r121 K126, fun ((a124, c125, K126, a135, c136) : (Option Addr) × (Nat) × (List Ch) × (Option Addr) × (Nat)) => fun σm => Hp S0 σ0 σm [Ch.own n0 n0 (Sl a135 r132 c136) r132, Ch.big K126, Ch.own 0 0 (Sl a58 r110.2 c59) r110.2, Ch.ro 0 (Sl aaList_0 aList_0 caList_0) aList_0, Ch.ro 0 (Sl aaAt_3 aAt_3 caAt_3) aAt_3, Ch.bx n0 b1 0 [(I aF_1.1), (I aF_1.2.1), (I aF_1.2.2)] [] [], Ch.own n0 n0 (Sl a32 r29 c33) r29] ∧ Md (cov []) σ118 σm ∧ Dp n0 (Sl a124 r121 c125) r121 K126 ∧ c136 = r132.length] [fun ((a124, c125, K126, a135, c136) : (Option Addr) × (Nat) × (List Ch) × (Option Addr) × (Nat)) => (Sl aaList_0 aList_0 caList_0), fun ((a124, c125, K126, a135, c136) : (Option Addr) × (Nat) × (List Ch) × (Option Addr) × (Nat)) => (Sl a124 r121 c125), fun ((a124, c125, K126, a135, c136) : (Option Addr) × (Nat) × (List Ch) × (Option Addr) × (Nat)) => (.agg #[(I aF_1.1), (I aF_1.2.1), (I aF_1.2.2)]), fun ((a124, c125, K126, a135, c136) : (Option Addr) × (Nat) × (List Ch) × (Option Addr) × (Nat)) => (.agg #[(I r129.1), (I r129.2.1), (I r129.2.2)]), fun ((a124, c125, K126, a135, c136) : (Option Addr) × (Nat) × (List Ch) × (Option Addr) × (Nat)) => (I aKind_2), fun ((a124, c125, K126, a135, c136) : (Option Addr) × (Nat) × (List Ch) × (Option Addr) × (Nat)) => (Sl aaAt_3 aAt_3 caAt_3), fun ((a124, c125, K126, a135, c136) : (Option Addr) × (Nat) × (List Ch) × (Option Addr) × (Nat)) => (Sl a135 r132 c136), fun ((a124, c125, K126, a135, c136) : (Option Addr) × (Nat) × (List Ch) × (Option Addr) × (Nat)) => (I aK_4)] (none, 0, [], none, 0) (by kernel_rfl) (by kernel_rfl) ?_ ?_ ?_
           ·intro σm m0
            exact ⟨H.grow (m0.mono fun _ h => h.elim), m0⟩
           ·refine ac rfl (by
              intro k; rintro ⟨a124, c125, K126, a135, c136⟩ ρ σm hJ hoff hdep
              have e0 := look_off (N := 108) (hoff 0 rfl) rfl
              exact dp_v (v := (Sl aaList_0 aList_0 caList_0)) wn (rv_move e0) rfl hJ) ?_
            refine all_cons (by
              refine ⟨?_, ?_⟩
              ·rintro ⟨a124, c125, K126, a135, c136⟩ ρ σm hJ hoff hdep
               have e87 : look 108 ρ 87 = (Sl aaList_0 aList_0 caList_0) := hdep 0 rfl rfl 87 rfl
               obtain ⟨H, m⟩ := id hJ
               refine dp_cx wn (cx_call hc123 (ent_f hc123.fn (by show [look 108 ρ 87] = _; rw [e87])) hn0 (show Hp S0 σ0 _ ([Ch.ro 0 (Sl aaList_0 aList_0 caList_0) aList_0] ++ [Ch.own 0 0 (Sl a58 r110.2 c59) r110.2, Ch.ro 0 (Sl aaList_0 aList_0 caList_0) aList_0, Ch.ro 0 (Sl aaAt_3 aAt_3 caAt_3) aAt_3, Ch.bx n0 b1 0 [(I aF_1.1), (I aF_1.2.1), (I aF_1.2.2)] [] [], Ch.own n0 n0 (Sl a32 r29 c33) r29]) from (H.sel' [1, 0, 1, 2, 3, 4] rfl rfl))) ?_
               rintro _ σq ⟨_, ⟨a124x, c125x, K126x, rfl, rfl, hK127⟩, H2, m2⟩
               exact ⟨_, (a124x, c125x, K126x, a135, c136), rfl, rfl, ⟨H2.sel' [0, 1, 2, 3, 4, 5] rfl rfl, m.comp0 (m2.mono (fun i h => by simp [cov, Ch.ro] at h)), hK127⟩, stab [0, 2, 4, 5, 7] (by kernel_rfl) ⟨rfl, rfl, rfl, rfl, rfl, trivial⟩⟩
              trivial) ?_
            refine all_cons (by
              refine ⟨?_, ?_⟩
              ·rintro ⟨a124, c125, K126, a135, c136⟩ ρ σm hJ hoff hdep
               have e6 := look_off (N := 108) (hoff 6 rfl) rfl
               obtain ⟨H, m⟩ := id hJ
               have hc128 := H.cells 3 rfl
               exact dp_v (v := (.agg #[(I aF_1.1), (I aF_1.2.1), (I aF_1.2.2)])) wn (rv_load (cs := [(I aF_1.1), (I aF_1.2.1), (I aF_1.2.2)]) Try.underlying50 rfl ti50 e6 rfl hc128) rfl hJ
              refine ⟨?_, ?_⟩
              ·rintro ⟨a124, c125, K126, a135, c136⟩ ρ σm hJ hoff hdep
               have e6 := look_off (N := 108) (hoff 6 rfl) rfl
               obtain ⟨H, m, hK127⟩ := id hJ
               have hc128 := H.cells 4 rfl
               exact dp_v (v := (.agg #[(I aF_1.1), (I aF_1.2.1), (I aF_1.2.2)])) wn (rv_load (cs := [(I aF_1.1), (I aF_1.2.1), (I aF_1.2.2)]) Try.underlying50 rfl ti50 e6 rfl hc128) rfl hJ
              trivial) ?_
            refine all_cons (by
              refine ⟨?_, ?_⟩
              ·rintro ⟨a124, c125, K126, a135, c136⟩ ρ σm hJ hoff hdep
               have e89 : look 108 ρ 89 = (.agg #[(I aF_1.1), (I aF_1.2.1), (I aF_1.2.2)]) := hdep 2 rfl rfl 89 rfl
               obtain ⟨H, m, hK127⟩ := id hJ
               refine dp_cx wn (cx_call hc131 (ent_f hc131.fn (by show [look 108 ρ 89] = _; rw [e89])) hn0 (show Hp S0 σ0 _ ([] ++ [Ch.big K126, Ch.own 0 0 (Sl a58 r110.2 c59) r110.2, Ch.ro 0 (Sl aaList_0 aList_0 caList_0) aList_0, Ch.ro 0 (Sl aaAt_3 aAt_3 caAt_3) aAt_3, Ch.bx n0 b1 0 [(I aF_1.1), (I aF_1.2.1), (I aF_1.2.2)] [] [], Ch.own n0 n0 (Sl a32 r29 c33) r29]) from (H.sel' [0, 1, 2, 3, 4, 5] rfl rfl))) ?_
               rintro _ σq ⟨_, ⟨rfl, rfl⟩, H2, m2⟩
               exact ⟨_, (a124, c125, K126, a135, c136), rfl, rfl, ⟨H2.sel' [0, 1, 2, 3, 4, 5] rfl rfl, m.comp0 m2, hK127⟩, stab [0, 1, 2, 4, 5, 7] (by kernel_rfl) ⟨rfl, rfl, rfl, rfl, rfl, rfl, trivial⟩⟩
              trivial) ?_
            refine ac rfl (by
              intro k; rintro ⟨a124, c125, K126, a135, c136⟩ ρ σm hJ hoff hdep
              have e2 := look_off (N := 108) (hoff 2 rfl) rfl
              exact dp_v (v := (I aKind_2)) wn (rv_move e2) rfl hJ) ?_
            refine ac rfl (by
              intro k; rintro ⟨a124, c125, K126, a135, c136⟩ ρ σm hJ hoff hdep
              have e3 := look_off (N := 108) (hoff 3 rfl) rfl
              exact dp_v (v := (Sl aaAt_3 aAt_3 caAt_3)) wn (rv_move e3) rfl hJ) ?_
            refine all_cons (by
              refine ⟨?_, ?_⟩
              ·rintro ⟨a124, c125, K126, a135, c136⟩ ρ σm hJ hoff hdep
               have e92 : look 108 ρ 92 = (Sl aaAt_3 aAt_3 caAt_3) := hdep 5 rfl rfl 92 rfl
               obtain ⟨H, m, hK127⟩ := id hJ
               refine dp_cx wn (cx_call hc134 (ent_f hc134.fn (by show [look 108 ρ 92] = _; rw [e92])) hn0 (show Hp S0 σ0 _ ([Ch.ro 0 (Sl aaAt_3 aAt_3 caAt_3) aAt_3] ++ [Ch.big K126, Ch.own 0 0 (Sl a58 r110.2 c59) r110.2, Ch.ro 0 (Sl aaList_0 aList_0 caList_0) aList_0, Ch.ro 0 (Sl aaAt_3 aAt_3 caAt_3) aAt_3, Ch.bx n0 b1 0 [(I aF_1.1), (I aF_1.2.1), (I aF_1.2.2)] [] [], Ch.own n0 n0 (Sl a32 r29 c33) r29]) from (H.sel' [3, 0, 1, 2, 3, 4, 5] rfl rfl))) ?_
               rintro _ σq ⟨_, ⟨a135x, c136x, rfl, rfl, ht137⟩, H2, m2⟩
               exact ⟨_, (a124, c125, K126, a135x, c136x), rfl, rfl, ⟨H2.sel' [0, 1, 2, 3, 4, 5, 6] rfl rfl, m.comp0 (m2.mono (fun i h => by simp [cov, Ch.ro] at h)), hK127, ht137⟩, stab [0, 1, 2, 3, 4, 5, 7] (by kernel_rfl) ⟨rfl, rfl, rfl, rfl, rfl, rfl, rfl, trivial⟩⟩
              trivial) ?_
            refine ac rfl (by
              intro k; rintro ⟨a124, c125, K126, a135, c136⟩ ρ σm hJ hoff hdep
              have e4 := look_off (N := 108) (hoff 4 rfl) rfl
              exact dp_v (v := (I aK_4)) wn (rv_move e4) rfl hJ) ?_
            exact all_nil
           ·rintro ⟨a124, c125, K126, a135, c136⟩ ρ σ138 hJ hoff hrel
            have e12 := look_off (N := 108) (hoff 12 rfl) rfl
            have e15 := look_off (N := 108) (hoff 15 rfl) rfl
            have e17 := look_off (N := 108) (hoff 17 rfl) rfl
            have e88 := hrel 1 rfl 88 rfl
            have e90 := hrel 3 rfl 90 rfl
            have e91 := hrel 4 rfl 91 rfl
            have e93 := hrel 6 rfl 93 rfl
            have e94 := hrel 7 rfl 94 rfl
            obtain ⟨H, -, hK127, ht137⟩ := (show Hp S0 σ0 σ138 [Ch.own n0 n0 (Sl a135 r132 c136) r132, Ch.big K126, Ch.own 0 0 (Sl a58 r110.2 c59) r110.2, Ch.ro 0 (Sl aaList_0 aList_0 caList_0) aList_0, Ch.ro 0 (Sl aaAt_3 aAt_3 caAt_3) aAt_3, Ch.bx n0 b1 0 [(I aF_1.1), (I aF_1.2.1), (I aF_1.2.2)] [] [], Ch.own n0 n0 (Sl a32 r29 c33) r29] ∧ Md (cov []) σ118 σ138 ∧ Dp n0 (Sl a124 r121 c125) r121 K126 ∧ c136 = r132.length from hJ)
            clear hJ Hs
            rw [fr_lookL (L := [(12, (Sl a32 r29 c33)), (15, (Sl a58 r110.2 c59)), (17, (I r110.1)), (88, (Sl a124 r121 c125)), (90, (.agg #[(I r129.1), (I r129.2.1), (I r129.2.2)])), (91, (I aKind_2)), (93, (Sl a135 r132 c136)), (94, (I aK_4))]) ⟨e12, e15, e17, e88, e90, e91, e93, e94, trivial⟩]
            clear hoff hrel e12 e15 e17 e88 e90 e91 e93 e94
            obtain ⟨σ139, hw140, H, -⟩ := H.pub 0 rfl (Nat.le_refl _)
            rw [← hw140]; clear hw140
            replace H := H.roLow 0 0 rfl (Nat.zero_le _)
            obtain ⟨r141, hx142, h'⟩ := bind_some h
            clear h
            have h := h'; clear h'
            have hc143 := c_impl_FilterNearest (alist_0 := a124) (clist_0 := c125) (aat_3 := a135) (cat_3 := c136) hx142
            have hle := Nat.le_trans hn0 H.size
            refine st_call (cx_lend (Loan.lendB hK127.lends (Loan.same Loan.nil)) hc143 (ent_f hc143.fn rfl) (show Hp S0 σ0 _ ([Ch.big K126] ++ ([Ch.ro 0 (Sl a135 r132 c136) r132] ++ [Ch.ro 0 (Sl a135 r132 c136) r132, Ch.ro n0 (Sl a135 r132 c136) r132, Ch.own 0 0 (Sl a58 r110.2 c59) r110.2, Ch.ro 0 (Sl aaList_0 aList_0 caList_0) aList_0, Ch.ro 0 (Sl aaAt_3 aAt_3 caAt_3) aAt_3, Ch.bx n0 b1 0 [(I aF_1.1), (I aF_1.2.1), (I aF_1.2.2)] [] [], Ch.own n0 n0 (Sl a32 r29 c33) r29])) from (H.sel' [2, 0, 0, 1, 3, 4, 5, 6, 7] rfl rfl)) (by rintro _ _ _ ⟨_, _, rfl, rfl⟩; exact ⟨Ab.ownSc, trivial⟩)) wn ?_
            rintro _ σ146 ⟨_, ⟨a144, c145, rfl, rfl⟩, H, -, -⟩
            replace H : Hp S0 σ0 σ146 [Ch.own 0 σ139.size (Sl a144 r141 c145) r141, Ch.big K126, Ch.ro 0 (Sl a135 r132 c136) r132, Ch.ro n0 (Sl a135 r132 c136) r132, Ch.own 0 0 (Sl a58 r110.2 c59) r110.2, Ch.ro 0 (Sl aaList_0 aList_0 caList_0) aList_0, Ch.ro 0 (Sl aaAt_3 aAt_3 caAt_3) aAt_3, Ch.bx n0 b1 0 [(I aF_1.1), (I aF_1.2.1), (I aF_1.2.2)] [] [], Ch.own n0 n0 (Sl a32 r29 c33) r29] := H
            replace H := H.ownLow 0 0 n0 rfl (Nat.le_refl _) hle
            clear hle
            replace H : Hp S0 σ0 σ146 [Ch.own 0 n0 (Sl a144 r141 c145) r141, Ch.big K126, Ch.ro 0 (Sl a135 r132 c136) r132, Ch.ro n0 (Sl a135 r132 c136) r132, Ch.own 0 0 (Sl a58 r110.2 c59) r110.2, Ch.ro 0 (Sl aaList_0 aList_0 caList_0) aList_0, Ch.ro 0 (Sl aaAt_3 aAt_3 caAt_3) aAt_3, Ch.bx n0 b1 0 [(I aF_1.1), (I aF_1.2.1), (I aF_1.2.2)] [] [], Ch.own n0 n0 (Sl a32 r29 c33) r29] := H
            replace H : Hp S0 σ0 σ146 [Ch.own 0 n0 (Sl a144 r141 c145) r141, Ch.own 0 0 (Sl a58 r110.2 c59) r110.2, Ch.own n0 n0 (Sl a32 r29 c33) r29] := H.sel' [0, 4, 8] rfl rfl
            refine st (v := (Sl a144 r141 c145)) (rv_assign rfl) ?_
            refine w_end ?_
            refine q_then ?_
            refine c_seq ?_
            refine c_seq ?_
            refine rg ?_
            refine st (v := (Sl a144 r141 c145)) (rv_move rfl) ?_
            refine st (v := (Sl a32 r29 c33)) (rv_move rfl) ?_
            replace H := H.ownLow 0 0 0 rfl (Nat.le_refl _) (Nat.zero_le _)
            obtain ⟨σ147, hw148, H, -⟩ := H.pub 0 rfl (Nat.le_refl _)
            rw [← hw148]; clear hw148
            obtain ⟨σ149, hw150, H, -⟩ := H.pub 2 rfl (Nat.le_refl _)
            rw [← hw150]; clear hw150
            replace H := H.roLow 0 0 rfl (Nat.zero_le _)
            obtain ⟨r151, hx152, h'⟩ := bind_some h
            clear h
            have h := h'; clear h'
            have hc153 := c_laws_eqHitS (aa_0 := a144) (ca_0 := c145) (ab_1 := a32) (cb_1 := c33) hx152
            refine st_call (cx_call hc153 (ent_f hc153.fn rfl) hn0 (show Hp S0 σ0 _ ([Ch.ro 0 (Sl a144 r141 c145) r141, Ch.ro 0 (Sl a32 r29 c33) r29] ++ [Ch.ro 0 (Sl a32 r29 c33) r29, Ch.ro n0 (Sl a32 r29 c33) r29, Ch.ro 0 (Sl a144 r141 c145) r141, Ch.own 0 0 (Sl a58 r110.2 c59) r110.2]) from (H.sel' [2, 0, 0, 1, 2, 3] rfl rfl))) wn ?_
            rintro _ σ154 ⟨_, ⟨rfl, rfl⟩, H, -⟩
            replace H : Hp S0 σ0 σ154 [Ch.ro 0 (Sl a32 r29 c33) r29, Ch.ro n0 (Sl a32 r29 c33) r29, Ch.ro 0 (Sl a144 r141 c145) r141, Ch.own 0 0 (Sl a58 r110.2 c59) r110.2] := H
            refine st (v := (B (!r151))) (rv_not rfl) ?_
            refine w_end ?_
            refine q_then ?_
            refine cd_cond (!r151) rfl (fun hb155 => ?_) (fun hb155 => ?_)
            ·replace h := bif_t hb155 h
             refine c_seq ?_
             refine rg ?_
             refine st (v := (B false)) (rv_assign rfl) ?_
             refine w_end ?_
             refine q_then ?_
             refine c_ret ?_
             refine q_then_r ?_
             obtain rfl := Option.some.inj h
             exact fin_ret (v := (B false)) (results_ok Try.results10 (res_tmp (v := (B false)) rfl res_nil) rfl) ⟨rfl, rfl⟩ (H.sel' [] rfl rfl)
            ·replace h := bif_f hb155 h
             refine c_skip ?_
             refine q_then ?_
             refine c_seq ?_
             refine rg ?_
             refine st (v := (I 1)) (rv_assign rfl) ?_
             refine w_end ?_
             refine q_then ?_
             refine c_seq ?_
             refine rg ?_
             refine st (v := (Sl a58 r110.2 c59)) (rv_move rfl) ?_
             refine st (v := (I 1)) (rv_move rfl) ?_
             obtain ⟨σ156, hw157, H, -⟩ := H.pub 3 rfl (Nat.le_refl _)
             rw [← hw157]; clear hw157
             obtain ⟨r158, hx159, h'⟩ := bind_some h
             clear h
             have h := h'; clear h'
             have hc160 := c_laws_heldHitS (aa_0 := a58) (ca_0 := c59) hx159
             refine st_call (cx_call hc160 (ent_f hc160.fn rfl) hn0 (show Hp S0 σ0 _ ([Ch.ro 0 (Sl a58 r110.2 c59) r110.2] ++ [Ch.ro 0 (Sl a58 r110.2 c59) r110.2, Ch.ro 0 (Sl a32 r29 c33) r29, Ch.ro n0 (Sl a32 r29 c33) r29, Ch.ro 0 (Sl a144 r141 c145) r141]) from (H.sel' [0, 0, 1, 2, 3] rfl rfl))) wn ?_
             rintro _ σ161 ⟨_, ⟨rfl, rfl⟩, H, -⟩
             replace H : Hp S0 σ0 σ161 [Ch.ro 0 (Sl a58 r110.2 c59) r110.2, Ch.ro 0 (Sl a32 r29 c33) r29, Ch.ro n0 (Sl a32 r29 c33) r29, Ch.ro 0 (Sl a144 r141 c145) r141] := H
             refine st (v := (I r158)) (rv_assign rfl) ?_
             refine w_end ?_
             refine q_then ?_
             refine c_seq ?_
             refine c_seq ?_
             refine rg ?_
             refine st (v := (I r158)) (rv_move rfl) ?_
             refine st (v := (B (decide (r158 < 0)))) (rv_lss (a := r158) (b := 0) rfl rfl) ?_
             refine w_end ?_
             refine q_then ?_
             refine cd_cond (decide (r158 < 0)) rfl (fun hb162 => ?_) (fun hb162 => ?_)
             ·replace h := bif_t hb162 h
              refine c_seq ?_
              refine rg ?_
              refine st (v := (B false)) (rv_assign rfl) ?_
              refine w_end ?_
              refine q_then ?_
              refine c_ret ?_
              refine q_then_r ?_
              obtain rfl := Option.some.inj h
              exact fin_ret (v := (B false)) (results_ok Try.results10 (res_tmp (v := (B false)) rfl res_nil) rfl) ⟨rfl, rfl⟩ (H.sel' [] rfl rfl)
             ·replace h := bif_f hb162 h
              refine c_skip ?_
              refine q_then ?_
              refine c_seq ?_
              refine c_seq ?_
              refine rg ?_
              refine st (v := (I r158)) (rv_move rfl) ?_
              refine st (v := (I r110.1)) (rv_move rfl) ?_
              refine st (v := (B (r158 != r110.1))) (rv_neq (a := r158) (b := r110.1) rfl rfl) ?_
              refine w_end ?_
              refine q_then ?_
              refine cd_cond (r158 != r110.1) rfl (fun hb163 => ?_) (fun hb163 => ?_)
              ·replace h := bif_t hb163 h
               refine c_seq ?_
               refine rg ?_
               refine st (v := (B false)) (rv_assign rfl) ?_
               refine w_end ?_
               refine q_then ?_
               refine c_ret ?_
               refine q_then_r ?_
               obtain rfl := Option.some.inj h
               exact fin_ret (v := (B false)) (results_ok Try.results10 (res_tmp (v := (B false)) rfl res_nil) rfl) ⟨rfl, rfl⟩ (H.sel' [] rfl rfl)
              ·replace h := bif_f hb163 h
               refine c_skip ?_
               refine q_then ?_
               refine c_seq ?_
               refine rg ?_
               refine st (v := (B true)) (rv_assign rfl) ?_
               refine w_end ?_
               refine q_then ?_
               refine c_ret ?_
               obtain rfl := Option.some.inj h
               exact fin_ret (v := (B true)) (results_ok Try.results10 (res_tmp (v := (B true)) rfl res_nil) rfl) ⟨rfl, rfl⟩ (H.sel' [] rfl rfl)

end Go.Vs
