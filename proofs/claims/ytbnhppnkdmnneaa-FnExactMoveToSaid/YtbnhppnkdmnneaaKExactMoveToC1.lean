/- The functions compute what their models say. -/
import Derived.Test.YtbnhppnkdmnneaaKExactMoveToM
import Derived.Test.YtbnhppnkdmnneaaExactMoveToEng1
import Derived.Test.YtbnhppnkdmnneaaProg
set_option linter.unusedVariables false
set_option linter.unusedSimpArgs false
set_option maxRecDepth 20000
namespace Go.Vs
open Go Go.Proofs
attribute [local irreducible] Code.wp Code.wpIn wpList wpListIn wpQuiet Calls CallsIn

theorem ti3 : TI Try.prog 3 (.int .i64 0) 1 8 := TI.mk' (by kernel_rfl)
theorem ti57 : TI Try.prog 57 (.agg #[(.int .i64 0), (.int .i64 0), (.int .i64 0), (.int .i64 0)]) 4 32 := TI.mk' (by kernel_rfl)

theorem c_laws_eqIntS {a_0 : List Int} {b_1 : List Int} {aa_0 : Option Addr} {ca_0 : Nat} {ab_1 : Option Addr} {cb_1 : Nat} {r : Bool} (h : M.laws_eqIntS a_0 b_1 = some r) :
    Cal2 Try.prog 17 [(Sl aa_0 a_0 ca_0), (Sl ab_1 b_1 cb_1)] [Ch.ro 0 (Sl aa_0 a_0 ca_0) a_0, Ch.ro 0 (Sl ab_1 b_1 cb_1) b_1] (fun n0 v L => v = (B r) ∧ L = []) := by
 refine cal2 (n := 26) Try.func17 rfl rfl rfl rfl ?_
 intro S0 σ0 n0 hn0 H
 unfold M.laws_eqIntS at h
 refine c_seq ?_
 refine rg ?_
 refine st (v := (B false)) (rv_assign rfl) ?_
 refine w_end ?_
 refine q_then ?_
 refine c_seq ?_
 refine c_seq ?_
 refine rg ?_
 refine st (v := (Sl aa_0 a_0 ca_0)) (rv_move rfl) ?_
 refine st (v := (I (a_0.length : Int))) (rv_len Try.underlying24 rfl) ?_
 refine st (v := (Sl ab_1 b_1 cb_1)) (rv_move rfl) ?_
 refine st (v := (I (b_1.length : Int))) (rv_len Try.underlying24 rfl) ?_
 refine st (v := (B ((a_0.length : Int) != (b_1.length : Int)))) (rv_neq (a := (a_0.length : Int)) (b := (b_1.length : Int)) rfl rfl) ?_
 refine w_end ?_
 refine q_then ?_
 refine cd_cond ((a_0.length : Int) != (b_1.length : Int)) rfl (fun hb1 => ?_) (fun hb1 => ?_)
 ·replace h := bif_t hb1 h
  refine c_seq ?_
  refine rg ?_
  refine st (v := (B false)) (rv_assign rfl) ?_
  refine w_end ?_
  refine q_then ?_
  refine c_ret ?_
  refine q_then_r ?_
  obtain rfl := Option.some.inj h
  exact fin_ret (v := (B false)) (results_ok Try.results17 (res_tmp (v := (B false)) rfl res_nil) rfl) ⟨rfl, rfl⟩ (H.sel' [] rfl rfl)
 ·replace h := bif_f hb1 h
  refine c_skip ?_
  refine q_then ?_
  refine c_seq ?_
  refine c_seq ?_
  refine rg ?_
  refine st (v := (I 0)) (rv_assign rfl) ?_
  refine w_end ?_
  refine q_then ?_
  obtain ⟨o2, hj, h'⟩ := bind_some h
  clear h
  refine c_cut (fun e a w => (∃ t, o2 = (.inl t) ∧ e = .normal ∧ ∃ (ρ : Nat → Value) (σ : St), a = fr 26 (updL ρ []) ∧ w = σ.w ∧ Hp S0 σ0 σ []) ∨ (∃ t, o2 = (.inr t) ∧ e = .ret ∧ ∃ (ρ : Nat → Value) (σ : St), a = fr 26 (updL ρ [(4, (B t))]) ∧ w = σ.w ∧ Hp S0 σ0 σ [])) ?_ ?_
  ·clear h'
   rename _ = some o2 => h
   refine c_blk ?_
   refine wp_loopM _ h (fun s3 a w => ∃ (ρ : Nat → Value) (σ : St), a = fr 26 (updL ρ [(0, (Sl aa_0 a_0 ca_0)), (1, (Sl ab_1 b_1 cb_1)), (5, (I s3))]) ∧ w = σ.w ∧ Hp S0 σ0 σ [Ch.ro 0 (Sl aa_0 a_0 ca_0) a_0, Ch.ro 0 (Sl ab_1 b_1 cb_1) b_1]) ⟨_, σ0, fr_join ⟨rfl, rfl, rfl, trivial⟩, rfl, H.sel' [0, 1] rfl rfl⟩ ?_
   clear h H
   rintro s3 a w o ⟨ρ, σ4, rfl, rfl, H⟩ h hres
   refine c_seq ?_
   refine c_seq ?_
   refine rg ?_
   refine st (v := (I s3)) (rv_move rfl) ?_
   refine st (v := (Sl aa_0 a_0 ca_0)) (rv_move rfl) ?_
   refine st (v := (I (a_0.length : Int))) (rv_len Try.underlying24 rfl) ?_
   refine st (v := (B (decide (s3 < (a_0.length : Int))))) (rv_lss (a := s3) (b := (a_0.length : Int)) rfl rfl) ?_
   refine w_end ?_
   refine q_then ?_
   refine cd_cond (decide (s3 < (a_0.length : Int))) rfl (fun hb5 => ?_) (fun hb5 => ?_)
   ·replace h := bif_t hb5 h
    refine c_skip ?_
    refine q_then ?_
    refine c_seq ?_
    refine c_blk ?_
    refine c_seq ?_
    refine rgP (σ := σ4) 8 (by kernel_rfl) (by kernel_rfl) (by kernel_rfl) ?_
    refine sq (v := (Sl aa_0 a_0 ca_0)) (rv_move rfl) ?_
    refine sq (v := (I s3)) (rv_move rfl) ?_
    obtain ⟨x6, hx7, h'⟩ := bind_some h
    clear h
    have h := h'; clear h'
    obtain ⟨b9, o10, hi8, -⟩ := (H.ro 0 rfl).ix hx7
    refine sq (v := (pt b9 o10)) (rv_ix Try.underlying24 ti3 rfl rfl hi8) ?_
    have hc11 := ((H.ro 0 rfl).at hx7 hi8).int
    refine sq (v := (I x6)) (rv_load1 Try.underlying3 rfl rfl hc11) ?_
    refine sq (v := (Sl ab_1 b_1 cb_1)) (rv_move rfl) ?_
    refine sq (v := (I s3)) (rv_move rfl) ?_
    obtain ⟨x12, hx13, h'⟩ := bind_some h
    clear h
    have h := h'; clear h'
    obtain ⟨b15, o16, hi14, -⟩ := (H.ro 1 rfl).ix hx13
    refine sq (v := (pt b15 o16)) (rv_ix Try.underlying24 ti3 rfl rfl hi14) ?_
    have hc17 := ((H.ro 1 rfl).at hx13 hi14).int
    refine sq (v := (I x12)) (rv_load1 Try.underlying3 rfl rfl hc17) ?_
    refine sq_end ?_
    intro σ18 hm19
    replace H := H.grow (hm19.mono fun _ h => h); clear hm19
    refine st (v := (B (x6 != x12))) (rv_neq (a := x6) (b := x12) rfl rfl) ?_
    refine w_end ?_
    refine q_then ?_
    refine cd_cond (x6 != x12) rfl (fun hb20 => ?_) (fun hb20 => ?_)
    ·replace h := bif_t hb20 h
     refine c_seq ?_
     refine rg ?_
     refine st (v := (B false)) (rv_assign rfl) ?_
     refine w_end ?_
     refine q_then ?_
     refine c_ret ?_
     refine q_blk_r ?_
     refine q_then_r ?_
     refine q_then_r ?_
     refine q_blk_r ?_
     obtain rfl := Option.some.inj h
     obtain rfl := hres _ rfl
     exact .inr (⟨_, rfl, rfl, _, σ18, fr_join ⟨rfl, trivial⟩, rfl, H.sel' [] rfl rfl⟩)
    ·replace h := bif_f hb20 h
     refine c_skip ?_
     refine q_blk ?_
     refine q_then ?_
     refine rg ?_
     refine st (v := (I s3)) (rv_move rfl) ?_
     refine st (v := (I (w64 (s3 + 1)))) (rv_add (a := s3) (b := 1) rfl rfl) ?_
     refine st (v := (I (w64 (s3 + 1)))) (rv_assign rfl) ?_
     refine w_end ?_
     refine q_then ?_
     obtain rfl := Option.some.inj h
     exact ⟨_, rfl, _, σ18, fr_join ⟨rfl, rfl, rfl, trivial⟩, rfl, H.sel' [0, 1] rfl rfl⟩
   ·replace h := bif_f hb5 h
    refine c_exit ?_
    refine q_then_x ?_
    refine q_then_x ?_
    refine q_blk_hit ?_
    obtain rfl := Option.some.inj h
    obtain rfl := hres _ rfl
    exact .inl ⟨_, rfl, rfl, _, σ4, fr_join trivial, rfl, H.sel' [] rfl rfl⟩
  ·clear hj
   have h := h'
   clear h' H
   rintro e a w (⟨t21, rfl, rfl, ρ, σ22, rfl, rfl, H⟩ | ⟨t23, rfl, rfl, ρ, σ24, rfl, rfl, H⟩)
   ·replace h := selim_l h
    refine q_then ?_
    refine c_seq ?_
    refine rg ?_
    refine st (v := (B true)) (rv_assign rfl) ?_
    refine w_end ?_
    refine q_then ?_
    refine c_ret ?_
    obtain rfl := Option.some.inj h
    exact fin_ret (v := (B true)) (results_ok Try.results17 (res_tmp (v := (B true)) rfl res_nil) rfl) ⟨rfl, rfl⟩ (H.sel' [] rfl rfl)
   ·replace h := selim_r h
    refine q_then_r ?_
    obtain rfl := Option.some.inj h
    exact fin_ret (v := (B t23)) (results_ok Try.results17 (res_tmp (v := (B t23)) rfl res_nil) rfl) ⟨rfl, rfl⟩ (H.sel' [] rfl rfl)

theorem c_laws_markIntS {a_0 : List Int} {k_1 : Int} {aa_0 : Option Addr} {ca_0 : Nat} {r : Int × (List Int)} (h : M.laws_markIntS a_0 k_1 = some r) :
    Cal2 Try.prog 20 [(Sl aa_0 a_0 ca_0), (I k_1)] [Ch.own 0 0 (Sl aa_0 a_0 ca_0) a_0] (fun n0 v L => v = (I r.1) ∧ L = [Ch.own 0 0 (Sl aa_0 r.2 ca_0) r.2] ∧ r.2.length = a_0.length) := by
 refine cal2 (n := 19) Try.func20 rfl rfl rfl rfl ?_
 intro S0 σ0 n0 hn0 H
 unfold M.laws_markIntS at h
 refine c_seq ?_
 refine rg ?_
 refine st (v := (I 0)) (rv_assign rfl) ?_
 refine w_end ?_
 refine q_then ?_
 refine c_seq ?_
 refine c_seq ?_
 refine rg ?_
 refine st (v := (I 0)) (rv_assign rfl) ?_
 refine w_end ?_
 refine q_then ?_
 obtain ⟨o1, hj, h'⟩ := bind_some h
 clear h
 refine c_cut (fun e a w => e = .normal ∧ ∃ (ρ : Nat → Value) (σ : St), a = fr 19 (updL ρ [(0, (Sl aa_0 o1.1 ca_0)), (1, (I o1.2))]) ∧ w = σ.w ∧ Hp S0 σ0 σ [Ch.own 0 0 (Sl aa_0 o1.1 ca_0) o1.1] ∧ o1.1.length = a_0.length) ?_ ?_
 ·clear h'
  rename _ = some o1 => h
  refine c_blk ?_
  refine wp_loopM _ h (fun s2 a w => ∃ (ρ : Nat → Value) (σ : St), a = fr 19 (updL ρ [(0, (Sl aa_0 s2.1 ca_0)), (1, (I s2.2.1)), (5, (I s2.2.2))]) ∧ w = σ.w ∧ Hp S0 σ0 σ [Ch.own 0 0 (Sl aa_0 s2.1 ca_0) s2.1] ∧ s2.1.length = a_0.length) ⟨_, σ0, fr_join ⟨rfl, rfl, rfl, trivial⟩, rfl, H.sel' [0] rfl rfl, rfl⟩ ?_
  clear h H
  rintro s2 a w o ⟨ρ, σ3, rfl, rfl, H, hn4⟩ h hres
  refine c_seq ?_
  refine c_seq ?_
  refine rg ?_
  refine st (v := (I s2.2.2)) (rv_move rfl) ?_
  refine st (v := (Sl aa_0 s2.1 ca_0)) (rv_move rfl) ?_
  refine st (v := (I (s2.1.length : Int))) (rv_len Try.underlying24 rfl) ?_
  refine st (v := (B (decide (s2.2.2 < (s2.1.length : Int))))) (rv_lss (a := s2.2.2) (b := (s2.1.length : Int)) rfl rfl) ?_
  refine w_end ?_
  refine q_then ?_
  refine cd_cond (decide (s2.2.2 < (s2.1.length : Int))) rfl (fun hb5 => ?_) (fun hb5 => ?_)
  ·replace h := bif_t hb5 h
   refine c_skip ?_
   refine q_then ?_
   refine c_seq ?_
   refine c_blk ?_
   refine c_seq ?_
   refine rg ?_
   refine st (v := (Sl aa_0 s2.1 ca_0)) (rv_move rfl) ?_
   refine st (v := (I s2.2.2)) (rv_move rfl) ?_
   refine st (v := (I s2.2.1)) (rv_move rfl) ?_
   obtain ⟨x6, hx7, h'⟩ := bind_some h
   clear h
   have h := h'; clear h'
   obtain ⟨b9, o10, hi8, -⟩ := (H.own 0 rfl).ix hx7
   refine st (v := (pt b9 o10)) (rv_ix Try.underlying24 ti3 rfl rfl hi8) ?_
   refine st_exS (ex_store_own (e' := s2.2.1) (vs := [(I s2.2.1)]) (k := 0) H (i := 0) rfl ti3 hx7 hi8 rfl rfl rfl rfl rfl (Nat.le_of_ble_eq_true rfl) (by simp [plain]) (by rintro _ rfl; exact rfl)) wn ?_
   rintro σ11 ⟨H, -⟩
   have hsl : (Sl aa_0 s2.1 ca_0) = (Sl aa_0 (s2.1.set s2.2.2.toNat s2.2.1) ca_0) := sl_len List.length_set.symm
   rw [hsl]; rw [hsl] at H; clear hsl
   refine w_end ?_
   refine q_then ?_
   refine rg ?_
   refine st (v := (I s2.2.1)) (rv_move rfl) ?_
   refine st (v := (I (w64 (s2.2.1 + 1)))) (rv_add (a := s2.2.1) (b := 1) rfl rfl) ?_
   refine st (v := (I (w64 (s2.2.1 + 1)))) (rv_assign rfl) ?_
   refine w_end ?_
   refine q_blk ?_
   refine q_then ?_
   refine rg ?_
   refine st (v := (I s2.2.2)) (rv_move rfl) ?_
   refine st (v := (I (w64 (s2.2.2 + 1)))) (rv_add (a := s2.2.2) (b := 1) rfl rfl) ?_
   refine st (v := (I (w64 (s2.2.2 + 1)))) (rv_assign rfl) ?_
   refine w_end ?_
   refine q_then ?_
   obtain rfl := Option.some.inj h
   exact ⟨_, rfl, _, σ11, fr_join ⟨rfl, rfl, rfl, trivial⟩, rfl, H.sel' [0] rfl rfl, (List.length_set.trans hn4)⟩
  ·replace h := bif_f hb5 h
   refine c_exit ?_
   refine q_then_x ?_
   refine q_then_x ?_
   refine q_blk_hit ?_
   obtain rfl := Option.some.inj h
   obtain rfl := hres _ rfl
   exact ⟨rfl, _, σ3, fr_join ⟨rfl, rfl, trivial⟩, rfl, H.sel' [0] rfl rfl, hn4⟩
 ·clear hj
  have h := h'
  clear h' H
  rintro e a w ⟨rfl, ρ, σ12, rfl, rfl, H, hn13⟩
  refine q_then ?_
  refine c_seq ?_
  refine rg ?_
  refine st (v := (I o1.2)) (rv_move rfl) ?_
  refine st (v := (I o1.2)) (rv_assign rfl) ?_
  refine w_end ?_
  refine q_then ?_
  refine c_ret ?_
  obtain rfl := Option.some.inj h
  exact fin_ret (v := (I o1.2)) (results_ok Try.results20 (res_tmp (v := (I o1.2)) rfl res_nil) rfl) ⟨rfl, rfl, hn13⟩ (H.sel' [0] rfl rfl)

theorem c_laws_heldIntS {a_0 : List Int} {k_1 : Int} {aa_0 : Option Addr} {ca_0 : Nat} {r : Int} (h : M.laws_heldIntS a_0 k_1 = some r) :
    Cal2 Try.prog 21 [(Sl aa_0 a_0 ca_0), (I k_1)] [Ch.ro 0 (Sl aa_0 a_0 ca_0) a_0] (fun n0 v L => v = (I r) ∧ L = []) := by
 refine cal2 (n := 21) Try.func21 rfl rfl rfl rfl ?_
 intro S0 σ0 n0 hn0 H
 unfold M.laws_heldIntS at h
 refine c_seq ?_
 refine rg ?_
 refine st (v := (I 0)) (rv_assign rfl) ?_
 refine w_end ?_
 refine q_then ?_
 refine c_seq ?_
 refine c_seq ?_
 refine rg ?_
 refine st (v := (I 0)) (rv_assign rfl) ?_
 refine w_end ?_
 refine q_then ?_
 obtain ⟨o1, hj, h'⟩ := bind_some h
 clear h
 refine c_cut (fun e a w => (∃ t, o1 = (.inl t) ∧ e = .normal ∧ ∃ (ρ : Nat → Value) (σ : St), a = fr 21 (updL ρ [(1, (I t))]) ∧ w = σ.w ∧ Hp S0 σ0 σ []) ∨ (∃ t, o1 = (.inr t) ∧ e = .ret ∧ ∃ (ρ : Nat → Value) (σ : St), a = fr 21 (updL ρ [(4, (I t))]) ∧ w = σ.w ∧ Hp S0 σ0 σ [])) ?_ ?_
 ·clear h'
  rename _ = some o1 => h
  refine c_blk ?_
  refine wp_loopM _ h (fun s2 a w => ∃ (ρ : Nat → Value) (σ : St), a = fr 21 (updL ρ [(0, (Sl aa_0 a_0 ca_0)), (1, (I s2.1)), (5, (I s2.2))]) ∧ w = σ.w ∧ Hp S0 σ0 σ [Ch.ro 0 (Sl aa_0 a_0 ca_0) a_0]) ⟨_, σ0, fr_join ⟨rfl, rfl, rfl, trivial⟩, rfl, H.sel' [0] rfl rfl⟩ ?_
  clear h H
  rintro s2 a w o ⟨ρ, σ3, rfl, rfl, H⟩ h hres
  refine c_seq ?_
  refine c_seq ?_
  refine rg ?_
  refine st (v := (I s2.2)) (rv_move rfl) ?_
  refine st (v := (Sl aa_0 a_0 ca_0)) (rv_move rfl) ?_
  refine st (v := (I (a_0.length : Int))) (rv_len Try.underlying24 rfl) ?_
  refine st (v := (B (decide (s2.2 < (a_0.length : Int))))) (rv_lss (a := s2.2) (b := (a_0.length : Int)) rfl rfl) ?_
  refine w_end ?_
  refine q_then ?_
  refine cd_cond (decide (s2.2 < (a_0.length : Int))) rfl (fun hb4 => ?_) (fun hb4 => ?_)
  ·replace h := bif_t hb4 h
   refine c_skip ?_
   refine q_then ?_
   refine c_seq ?_
   refine c_blk ?_
   refine c_seq ?_
   refine c_seq ?_
   refine rg ?_
   refine st (v := (Sl aa_0 a_0 ca_0)) (rv_move rfl) ?_
   refine st (v := (I s2.2)) (rv_move rfl) ?_
   obtain ⟨x5, hx6, h'⟩ := bind_some h
   clear h
   have h := h'; clear h'
   obtain ⟨b8, o9, hi7, -⟩ := (H.ro 0 rfl).ix hx6
   refine st (v := (pt b8 o9)) (rv_ix Try.underlying24 ti3 rfl rfl hi7) ?_
   have hc10 := ((H.ro 0 rfl).at hx6 hi7).int
   refine st (v := (I x5)) (rv_load1 Try.underlying3 rfl rfl hc10) ?_
   refine st (v := (I s2.1)) (rv_move rfl) ?_
   refine st (v := (B (x5 != s2.1))) (rv_neq (a := x5) (b := s2.1) rfl rfl) ?_
   refine w_end ?_
   refine q_then ?_
   refine cd_cond (x5 != s2.1) rfl (fun hb11 => ?_) (fun hb11 => ?_)
   ·replace h := bif_t hb11 h
    refine c_seq ?_
    refine rg ?_
    refine st (v := (I (-1))) (rv_assign rfl) ?_
    refine w_end ?_
    refine q_then ?_
    refine c_ret ?_
    refine q_then_r ?_
    refine q_blk_r ?_
    refine q_then_r ?_
    refine q_then_r ?_
    refine q_blk_r ?_
    obtain rfl := Option.some.inj h
    obtain rfl := hres _ rfl
    exact .inr (⟨_, rfl, rfl, _, σ3, fr_join ⟨rfl, trivial⟩, rfl, H.sel' [] rfl rfl⟩)
   ·replace h := bif_f hb11 h
    refine c_skip ?_
    refine q_then ?_
    refine rg ?_
    refine st (v := (I s2.1)) (rv_move rfl) ?_
    refine st (v := (I (w64 (s2.1 + 1)))) (rv_add (a := s2.1) (b := 1) rfl rfl) ?_
    refine st (v := (I (w64 (s2.1 + 1)))) (rv_assign rfl) ?_
    refine w_end ?_
    refine q_blk ?_
    refine q_then ?_
    refine rg ?_
    refine st (v := (I s2.2)) (rv_move rfl) ?_
    refine st (v := (I (w64 (s2.2 + 1)))) (rv_add (a := s2.2) (b := 1) rfl rfl) ?_
    refine st (v := (I (w64 (s2.2 + 1)))) (rv_assign rfl) ?_
    refine w_end ?_
    refine q_then ?_
    obtain rfl := Option.some.inj h
    exact ⟨_, rfl, _, σ3, fr_join ⟨rfl, rfl, rfl, trivial⟩, rfl, H.sel' [0] rfl rfl⟩
  ·replace h := bif_f hb4 h
   refine c_exit ?_
   refine q_then_x ?_
   refine q_then_x ?_
   refine q_blk_hit ?_
   obtain rfl := Option.some.inj h
   obtain rfl := hres _ rfl
   exact .inl ⟨_, rfl, rfl, _, σ3, fr_join ⟨rfl, trivial⟩, rfl, H.sel' [] rfl rfl⟩
 ·clear hj
  have h := h'
  clear h' H
  rintro e a w (⟨t12, rfl, rfl, ρ, σ13, rfl, rfl, H⟩ | ⟨t14, rfl, rfl, ρ, σ15, rfl, rfl, H⟩)
  ·replace h := selim_l h
   refine q_then ?_
   refine c_seq ?_
   refine rg ?_
   refine st (v := (I t12)) (rv_move rfl) ?_
   refine st (v := (I t12)) (rv_assign rfl) ?_
   refine w_end ?_
   refine q_then ?_
   refine c_ret ?_
   obtain rfl := Option.some.inj h
   exact fin_ret (v := (I t12)) (results_ok Try.results21 (res_tmp (v := (I t12)) rfl res_nil) rfl) ⟨rfl, rfl⟩ (H.sel' [] rfl rfl)
  ·replace h := selim_r h
   refine q_then_r ?_
   obtain rfl := Option.some.inj h
   exact fin_ret (v := (I t14)) (results_ok Try.results21 (res_tmp (v := (I t14)) rfl res_nil) rfl) ⟨rfl, rfl⟩ (H.sel' [] rfl rfl)

theorem c_spec_inRange {n_0 : Int} {low_1 : Int} {high_2 : Int}  {r : Bool} (h : M.spec_inRange n_0 low_1 high_2 = some r) :
    Cal2 Try.prog 47 [(I n_0), (I low_1), (I high_2)] [] (fun n0 v L => v = (B r) ∧ L = []) := by
 refine cal2 (n := 15) Try.func47 rfl rfl rfl rfl ?_
 intro S0 σ0 n0 hn0 H
 unfold M.spec_inRange at h
 refine c_seq ?_
 refine rg ?_
 refine st (v := (B false)) (rv_assign rfl) ?_
 refine w_end ?_
 refine q_then ?_
 refine c_seq ?_
 refine rg ?_
 refine st (v := (I low_1)) (rv_move rfl) ?_
 refine st (v := (I n_0)) (rv_move rfl) ?_
 refine st (v := (B (decide (low_1 ≤ n_0)))) (rv_leq (a := low_1) (b := n_0) rfl rfl) ?_
 refine st (v := (B (decide (low_1 ≤ n_0)))) (rv_move rfl) ?_
 rcases Bool.eq_false_or_eq_true (decide (low_1 ≤ n_0)) with hb1 | hb1
 ·replace h := bif_t hb1 h
  refine st_g (v := (I n_0)) (congrArg some hb1) (rv_move rfl) ?_
  refine st_g (v := (I high_2)) (congrArg some hb1) (rv_move rfl) ?_
  refine st_g (v := (B (decide (n_0 ≤ high_2)))) (congrArg some hb1) (rv_leq (a := n_0) (b := high_2) rfl rfl) ?_
  refine st (v := (B (decide (n_0 ≤ high_2)))) (rv_pick_t (congrArg B hb1) rfl) ?_
  refine st (v := (B (decide (n_0 ≤ high_2)))) (rv_assign rfl) ?_
  refine w_end ?_
  refine q_then ?_
  refine c_ret ?_
  obtain rfl := Option.some.inj h
  exact fin_ret (v := (B (decide (n_0 ≤ high_2)))) (results_ok Try.results47 (res_tmp (v := (B (decide (n_0 ≤ high_2)))) rfl res_nil) rfl) ⟨rfl, rfl⟩ (H.sel' [] rfl rfl)
 ·replace h := bif_f hb1 h
  refine st_skip (congrArg some hb1) ?_
  refine st_skip (congrArg some hb1) ?_
  refine st_skip (congrArg some hb1) ?_
  refine st (v := (B false)) (rv_pick_f (congrArg B hb1) rfl) ?_
  refine st (v := (B false)) (rv_assign rfl) ?_
  refine w_end ?_
  refine q_then ?_
  refine c_ret ?_
  obtain rfl := Option.some.inj h
  exact fin_ret (v := (B false)) (results_ok Try.results47 (res_tmp (v := (B false)) rfl res_nil) rfl) ⟨rfl, rfl⟩ (H.sel' [] rfl rfl)

theorem c_spec_allIn {list_0 : List Int} {low_1 : Int} {high_2 : Int} {alist_0 : Option Addr} {clist_0 : Nat} {r : Bool} (h : M.spec_allIn list_0 low_1 high_2 = some r) :
    Cal2 Try.prog 87 [(Sl alist_0 list_0 clist_0), (I low_1), (I high_2)] [Ch.ro 0 (Sl alist_0 list_0 clist_0) list_0] (fun n0 v L => v = (B r) ∧ L = []) := by
 refine cal2 (n := 22) Try.func87 rfl rfl rfl rfl ?_
 intro S0 σ0 n0 hn0 H
 unfold M.spec_allIn at h
 refine c_seq ?_
 refine rg ?_
 refine st (v := (B false)) (rv_assign rfl) ?_
 refine w_end ?_
 refine q_then ?_
 refine c_seq ?_
 refine c_seq ?_
 refine rg ?_
 refine st (v := (I 0)) (rv_assign rfl) ?_
 refine w_end ?_
 refine q_then ?_
 obtain ⟨o1, hj, h'⟩ := bind_some h
 clear h
 refine c_cut (fun e a w => (∃ t, o1 = (.inl t) ∧ e = .normal ∧ ∃ (ρ : Nat → Value) (σ : St), a = fr 22 (updL ρ []) ∧ w = σ.w ∧ Hp S0 σ0 σ []) ∨ (∃ t, o1 = (.inr t) ∧ e = .ret ∧ ∃ (ρ : Nat → Value) (σ : St), a = fr 22 (updL ρ [(6, (B t))]) ∧ w = σ.w ∧ Hp S0 σ0 σ [])) ?_ ?_
 ·clear h'
  rename _ = some o1 => h
  refine c_blk ?_
  refine wp_loopM _ h (fun s2 a w => ∃ (ρ : Nat → Value) (σ : St), a = fr 22 (updL ρ [(0, (Sl alist_0 list_0 clist_0)), (1, (I low_1)), (2, (I high_2)), (7, (I s2))]) ∧ w = σ.w ∧ Hp S0 σ0 σ [Ch.ro 0 (Sl alist_0 list_0 clist_0) list_0]) ⟨_, σ0, fr_join ⟨rfl, rfl, rfl, rfl, trivial⟩, rfl, H.sel' [0] rfl rfl⟩ ?_
  clear h H
  rintro s2 a w o ⟨ρ, σ3, rfl, rfl, H⟩ h hres
  refine c_seq ?_
  refine c_seq ?_
  refine rg ?_
  refine st (v := (I s2)) (rv_move rfl) ?_
  refine st (v := (Sl alist_0 list_0 clist_0)) (rv_move rfl) ?_
  refine st (v := (I (list_0.length : Int))) (rv_len Try.underlying24 rfl) ?_
  refine st (v := (B (decide (s2 < (list_0.length : Int))))) (rv_lss (a := s2) (b := (list_0.length : Int)) rfl rfl) ?_
  refine w_end ?_
  refine q_then ?_
  refine cd_cond (decide (s2 < (list_0.length : Int))) rfl (fun hb4 => ?_) (fun hb4 => ?_)
  ·replace h := bif_t hb4 h
   refine c_skip ?_
   refine q_then ?_
   refine c_seq ?_
   refine c_blk ?_
   refine c_seq ?_
   refine rg ?_
   refine st (v := (Sl alist_0 list_0 clist_0)) (rv_move rfl) ?_
   refine st (v := (I s2)) (rv_move rfl) ?_
   obtain ⟨x5, hx6, h'⟩ := bind_some h
   clear h
   have h := h'; clear h'
   obtain ⟨b8, o9, hi7, -⟩ := (H.ro 0 rfl).ix hx6
   refine st (v := (pt b8 o9)) (rv_ix Try.underlying24 ti3 rfl rfl hi7) ?_
   have hc10 := ((H.ro 0 rfl).at hx6 hi7).int
   refine st (v := (I x5)) (rv_load1 Try.underlying3 rfl rfl hc10) ?_
   refine st (v := (I low_1)) (rv_move rfl) ?_
   refine st (v := (I high_2)) (rv_move rfl) ?_
   obtain ⟨r11, hx12, h'⟩ := bind_some h
   clear h
   have h := h'; clear h'
   have hc13 := c_spec_inRange hx12
   refine st_call (cx_call hc13 (ent_f hc13.fn rfl) hn0 (show Hp S0 σ0 _ ([] ++ [Ch.ro 0 (Sl alist_0 list_0 clist_0) list_0]) from (H.sel' [0] rfl rfl))) wn ?_
   rintro _ σ14 ⟨_, ⟨rfl, rfl⟩, H, -⟩
   replace H : Hp S0 σ0 σ14 [Ch.ro 0 (Sl alist_0 list_0 clist_0) list_0] := H
   refine st (v := (B (!r11))) (rv_not rfl) ?_
   refine w_end ?_
   refine q_then ?_
   refine cd_cond (!r11) rfl (fun hb15 => ?_) (fun hb15 => ?_)
   ·replace h := bif_t hb15 h
    refine c_seq ?_
    refine rg ?_
    refine st (v := (B false)) (rv_assign rfl) ?_
    refine w_end ?_
    refine q_then ?_
    refine c_ret ?_
    refine q_blk_r ?_
    refine q_then_r ?_
    refine q_then_r ?_
    refine q_blk_r ?_
    obtain rfl := Option.some.inj h
    obtain rfl := hres _ rfl
    exact .inr (⟨_, rfl, rfl, _, σ14, fr_join ⟨rfl, trivial⟩, rfl, H.sel' [] rfl rfl⟩)
   ·replace h := bif_f hb15 h
    refine c_skip ?_
    refine q_blk ?_
    refine q_then ?_
    refine rg ?_
    refine st (v := (I s2)) (rv_move rfl) ?_
    refine st (v := (I (w64 (s2 + 1)))) (rv_add (a := s2) (b := 1) rfl rfl) ?_
    refine st (v := (I (w64 (s2 + 1)))) (rv_assign rfl) ?_
    refine w_end ?_
    refine q_then ?_
    obtain rfl := Option.some.inj h
    exact ⟨_, rfl, _, σ14, fr_join ⟨rfl, rfl, rfl, rfl, trivial⟩, rfl, H.sel' [0] rfl rfl⟩
  ·replace h := bif_f hb4 h
   refine c_exit ?_
   refine q_then_x ?_
   refine q_then_x ?_
   refine q_blk_hit ?_
   obtain rfl := Option.some.inj h
   obtain rfl := hres _ rfl
   exact .inl ⟨_, rfl, rfl, _, σ3, fr_join trivial, rfl, H.sel' [] rfl rfl⟩
 ·clear hj
  have h := h'
  clear h' H
  rintro e a w (⟨t16, rfl, rfl, ρ, σ17, rfl, rfl, H⟩ | ⟨t18, rfl, rfl, ρ, σ19, rfl, rfl, H⟩)
  ·replace h := selim_l h
   refine q_then ?_
   refine c_seq ?_
   refine rg ?_
   refine st (v := (B true)) (rv_assign rfl) ?_
   refine w_end ?_
   refine q_then ?_
   refine c_ret ?_
   obtain rfl := Option.some.inj h
   exact fin_ret (v := (B true)) (results_ok Try.results87 (res_tmp (v := (B true)) rfl res_nil) rfl) ⟨rfl, rfl⟩ (H.sel' [] rfl rfl)
  ·replace h := selim_r h
   refine q_then_r ?_
   obtain rfl := Option.some.inj h
   exact fin_ret (v := (B t18)) (results_ok Try.results87 (res_tmp (v := (B t18)) rfl res_nil) rfl) ⟨rfl, rfl⟩ (H.sel' [] rfl rfl)

theorem c_spec_isVector {v_0 : List Int} {av_0 : Option Addr} {cv_0 : Nat} {r : Bool} (h : M.spec_isVector v_0 = some r) :
    Cal2 Try.prog 48 [(Sl av_0 v_0 cv_0)] [Ch.ro 0 (Sl av_0 v_0 cv_0) v_0] (fun n0 v L => v = (B r) ∧ L = []) := by
 refine cal2 (n := 10) Try.func48 rfl rfl rfl rfl ?_
 intro S0 σ0 n0 hn0 H
 unfold M.spec_isVector at h
 refine c_seq ?_
 refine rg ?_
 refine st (v := (B false)) (rv_assign rfl) ?_
 refine w_end ?_
 refine q_then ?_
 refine c_seq ?_
 refine rg ?_
 refine st (v := (Sl av_0 v_0 cv_0)) (rv_move rfl) ?_
 refine st (v := (I (v_0.length : Int))) (rv_len Try.underlying24 rfl) ?_
 refine st (v := (B ((v_0.length : Int) == 4))) (rv_eql (a := (v_0.length : Int)) (b := 4) rfl rfl) ?_
 refine st (v := (B ((v_0.length : Int) == 4))) (rv_move rfl) ?_
 rcases Bool.eq_false_or_eq_true ((v_0.length : Int) == 4) with hb1 | hb1
 ·replace h := bif_t hb1 h
  refine st_g (v := (Sl av_0 v_0 cv_0)) (congrArg some hb1) (rv_move rfl) ?_
  obtain ⟨r2, hx3, h'⟩ := bind_some h
  clear h
  have h := h'; clear h'
  have hc4 := c_spec_allIn (alist_0 := av_0) (clist_0 := cv_0) hx3
  refine st_call (cx_call hc4 (ent_f hc4.fn rfl) hn0 (show Hp S0 σ0 _ ([Ch.ro 0 (Sl av_0 v_0 cv_0) v_0] ++ [Ch.ro 0 (Sl av_0 v_0 cv_0) v_0]) from (H.sel' [0, 0] rfl rfl))) (wanted_yes rfl (by exact (congrArg some hb1))) ?_
  rintro _ σ5 ⟨_, ⟨rfl, rfl⟩, H, -⟩
  replace H : Hp S0 σ0 σ5 [Ch.ro 0 (Sl av_0 v_0 cv_0) v_0] := H
  refine st (v := (B r2)) (rv_pick_t (congrArg B hb1) rfl) ?_
  refine st (v := (B r2)) (rv_assign rfl) ?_
  refine w_end ?_
  refine q_then ?_
  refine c_ret ?_
  obtain rfl := Option.some.inj h
  exact fin_ret (v := (B r2)) (results_ok Try.results48 (res_tmp (v := (B r2)) rfl res_nil) rfl) ⟨rfl, rfl⟩ (H.sel' [] rfl rfl)
 ·replace h := bif_f hb1 h
  refine st_skip (congrArg some hb1) ?_
  refine st_skip (congrArg some hb1) ?_
  refine st (v := (B false)) (rv_pick_f (congrArg B hb1) rfl) ?_
  refine st (v := (B false)) (rv_assign rfl) ?_
  refine w_end ?_
  refine q_then ?_
  refine c_ret ?_
  obtain rfl := Option.some.inj h
  exact fin_ret (v := (B false)) (results_ok Try.results48 (res_tmp (v := (B false)) rfl res_nil) rfl) ⟨rfl, rfl⟩ (H.sel' [] rfl rfl)

theorem c_spec_floorDiv {a_0 : Int} {b_1 : Int}  {r : Int} (h : M.spec_floorDiv a_0 b_1 = some r) :
    Cal2 Try.prog 52 [(I a_0), (I b_1)] [] (fun n0 v L => v = (I r) ∧ L = []) := by
 refine cal2 (n := 16) Try.func52 rfl rfl rfl rfl ?_
 intro S0 σ0 n0 hn0 H
 unfold M.spec_floorDiv at h
 refine c_seq ?_
 refine rg ?_
 refine st (v := (I 0)) (rv_assign rfl) ?_
 refine w_end ?_
 refine q_then ?_
 refine c_seq ?_
 refine rg ?_
 refine st (v := (I a_0)) (rv_move rfl) ?_
 refine st (v := (I b_1)) (rv_move rfl) ?_
 obtain ⟨q1, hx2, h'⟩ := bind_some h
 clear h
 have h := h'; clear h'
 refine st (v := (I q1)) (rv_quoG (a := a_0) (b := b_1) hx2 rfl rfl) ?_
 refine st (v := (I q1)) (rv_assign rfl) ?_
 refine w_end ?_
 refine q_then ?_
 refine c_seq ?_
 refine c_seq ?_
 refine rg ?_
 refine st (v := (I a_0)) (rv_move rfl) ?_
 refine st (v := (I b_1)) (rv_move rfl) ?_
 obtain ⟨q3, hx4, h'⟩ := bind_some h
 clear h
 have h := h'; clear h'
 refine st (v := (I q3)) (rv_remG (a := a_0) (b := b_1) hx4 rfl rfl) ?_
 refine st (v := (B (decide (q3 < 0)))) (rv_lss (a := q3) (b := 0) rfl rfl) ?_
 refine w_end ?_
 refine q_then ?_
 obtain ⟨o5, hj, h'⟩ := bind_some h
 clear h
 refine c_cut (fun e a w => e = .normal ∧ ∃ (ρ : Nat → Value) (σ : St), a = fr 16 (updL ρ [(5, (I o5))]) ∧ w = σ.w ∧ Hp S0 σ0 σ []) ?_ ?_
 ·clear h'
  rename _ = some o5 => h
  refine cd_cond (decide (q3 < 0)) rfl (fun hb6 => ?_) (fun hb6 => ?_)
  ·replace h := bif_t hb6 h
   refine rg ?_
   refine st (v := (I q1)) (rv_move rfl) ?_
   refine st (v := (I (w64 (q1 - 1)))) (rv_sub (a := q1) (b := 1) rfl rfl) ?_
   refine st (v := (I (w64 (q1 - 1)))) (rv_assign rfl) ?_
   refine w_end ?_
   obtain rfl := Option.some.inj h
   exact ⟨rfl, _, σ0, fr_join ⟨rfl, trivial⟩, rfl, H.sel' [] rfl rfl⟩
  ·replace h := bif_f hb6 h
   refine c_skip ?_
   obtain rfl := Option.some.inj h
   exact ⟨rfl, _, σ0, fr_join ⟨rfl, trivial⟩, rfl, H.sel' [] rfl rfl⟩
 ·clear hj
  have h := h'
  clear h' H
  rintro e a w ⟨rfl, ρ, σ7, rfl, rfl, H⟩
  refine q_then ?_
  refine c_seq ?_
  refine rg ?_
  refine st (v := (I o5)) (rv_move rfl) ?_
  refine st (v := (I o5)) (rv_assign rfl) ?_
  refine w_end ?_
  refine q_then ?_
  refine c_ret ?_
  obtain rfl := Option.some.inj h
  exact fin_ret (v := (I o5)) (results_ok Try.results52 (res_tmp (v := (I o5)) rfl res_nil) rfl) ⟨rfl, rfl⟩ (H.sel' [] rfl rfl)

theorem c_spec_MoveTo {a_0 : List Int} {b_1 : List Int} {part_2 : Int} {aa_0 : Option Addr} {ca_0 : Nat} {ab_1 : Option Addr} {cb_1 : Nat} {r : (List Int)} (h : M.spec_MoveTo a_0 b_1 part_2 = some r) :
    Cal2 Try.prog 22 [(Sl aa_0 a_0 ca_0), (Sl ab_1 b_1 cb_1), (I part_2)] [Ch.ro 0 (Sl aa_0 a_0 ca_0) a_0, Ch.ro 0 (Sl ab_1 b_1 cb_1) b_1] (fun n0 v L => ∃ (az1 : Option Addr), ∃ (cz2 : Nat), v = (Sl az1 r cz2) ∧ L = [Ch.own n0 n0 (Sl az1 r cz2) r]) := by
 refine cal2 (n := 48) Try.func22 rfl rfl rfl rfl ?_
 intro S0 σ0 n0 hn0 H
 unfold M.spec_MoveTo at h
 refine c_seq ?_
 refine rg ?_
 refine st (v := (.slice none 0 0)) (rv_assign rfl) ?_
 refine w_end ?_
 refine q_then ?_
 refine c_seq ?_
 refine rg ?_
 refine st_ex (ex_buildSlice (el := n0) (xs := ([] : List Int)) (ps := []) (cs := []) H hn0 Try.underlying24 ti3 rfl rfl (by kernel_rfl) (.nil) rfl) wn ?_
 rintro _ σ2 ⟨b1, rfl, H, -⟩
 refine st (v := (Sl (some ⟨b1, 0, none⟩) ([] : List Int) 0)) (rv_assign rfl) ?_
 refine w_end ?_
 refine q_then ?_
 refine c_seq ?_
 refine c_seq ?_
 obtain ⟨o3, hj, h'⟩ := bind_some h
 clear h
 refine c_cut (fun e a w => e = .normal ∧ ∃ (ρ : Nat → Value) (σ : St), a = fr 48 (updL ρ [(0, (Sl aa_0 a_0 ca_0)), (1, (Sl ab_1 b_1 cb_1)), (2, (I part_2)), (7, (Sl (some ⟨b1, 0, none⟩) ([] : List Int) 0)), (22, (B o3))]) ∧ w = σ.w ∧ Hp S0 σ0 σ [Ch.ro 0 (Sl aa_0 a_0 ca_0) a_0, Ch.ro 0 (Sl ab_1 b_1 cb_1) b_1, Ch.own n0 n0 (Sl (some ⟨b1, 0, none⟩) ([] : List Int) 0) ([] : List Int)]) ?_ ?_
 ·clear h'
  rename _ = some o3 => h
  refine rg ?_
  refine st (v := (Sl aa_0 a_0 ca_0)) (rv_move rfl) ?_
  obtain ⟨r4, hx5, h'⟩ := bind_some h
  clear h
  have h := h'; clear h'
  have hc6 := c_spec_isVector (av_0 := aa_0) (cv_0 := ca_0) hx5
  refine st_call (cx_call hc6 (ent_f hc6.fn rfl) hn0 (show Hp S0 σ0 _ ([Ch.ro 0 (Sl aa_0 a_0 ca_0) a_0] ++ [Ch.own n0 n0 (Sl (some ⟨b1, 0, none⟩) ([] : List Int) 0) ([] : List Int), Ch.ro 0 (Sl aa_0 a_0 ca_0) a_0, Ch.ro 0 (Sl ab_1 b_1 cb_1) b_1]) from (H.sel' [1, 0, 1, 2] rfl rfl))) wn ?_
  rintro _ σ7 ⟨_, ⟨rfl, rfl⟩, H, -⟩
  replace H : Hp S0 σ0 σ7 [Ch.own n0 n0 (Sl (some ⟨b1, 0, none⟩) ([] : List Int) 0) ([] : List Int), Ch.ro 0 (Sl aa_0 a_0 ca_0) a_0, Ch.ro 0 (Sl ab_1 b_1 cb_1) b_1] := H
  refine st (v := (B (!r4))) (rv_not rfl) ?_
  refine st (v := (B (!r4))) (rv_move rfl) ?_
  rcases Bool.eq_false_or_eq_true (!r4) with hb8 | hb8
  ·replace h := bif_t hb8 h
   refine st_skip (congrArg some hb8) ?_
   refine st_skip (congrArg some hb8) ?_
   refine st_skip (congrArg some hb8) ?_
   refine st (v := (B true)) (rv_pick_t (congrArg B hb8) rfl) ?_
   refine st (v := (B true)) (rv_move rfl) ?_
   refine st_skip rfl ?_
   refine st_skip rfl ?_
   refine st_skip rfl ?_
   refine st (v := (B true)) (rv_pick_t rfl rfl) ?_
   refine w_end ?_
   obtain rfl := Option.some.inj h
   exact ⟨rfl, _, σ7, fr_join ⟨rfl, rfl, rfl, rfl, rfl, trivial⟩, rfl, H.sel' [1, 2, 0] rfl rfl⟩
  ·replace h := bif_f hb8 h
   refine st_g (v := (Sl ab_1 b_1 cb_1)) (congrArg some hb8) (rv_move rfl) ?_
   obtain ⟨r9, hx10, h'⟩ := bind_some h
   clear h
   have h := h'; clear h'
   have hc11 := c_spec_isVector (av_0 := ab_1) (cv_0 := cb_1) hx10
   refine st_call (cx_call hc11 (ent_f hc11.fn rfl) hn0 (show Hp S0 σ0 _ ([Ch.ro 0 (Sl ab_1 b_1 cb_1) b_1] ++ [Ch.own n0 n0 (Sl (some ⟨b1, 0, none⟩) ([] : List Int) 0) ([] : List Int), Ch.ro 0 (Sl aa_0 a_0 ca_0) a_0, Ch.ro 0 (Sl ab_1 b_1 cb_1) b_1]) from (H.sel' [2, 0, 1, 2] rfl rfl))) (wanted_yes rfl (by exact (congrArg some hb8))) ?_
   rintro _ σ12 ⟨_, ⟨rfl, rfl⟩, H, -⟩
   replace H : Hp S0 σ0 σ12 [Ch.own n0 n0 (Sl (some ⟨b1, 0, none⟩) ([] : List Int) 0) ([] : List Int), Ch.ro 0 (Sl aa_0 a_0 ca_0) a_0, Ch.ro 0 (Sl ab_1 b_1 cb_1) b_1] := H
   refine st_g (v := (B (!r9))) (congrArg some hb8) (rv_not rfl) ?_
   refine st (v := (B (!r9))) (rv_pick_f (congrArg B hb8) rfl) ?_
   refine st (v := (B (!r9))) (rv_move rfl) ?_
   rcases Bool.eq_false_or_eq_true (!r9) with hb13 | hb13
   ·replace h := bif_t hb13 h
    refine st_skip (congrArg some hb13) ?_
    refine st_skip (congrArg some hb13) ?_
    refine st_skip (congrArg some hb13) ?_
    refine st (v := (B true)) (rv_pick_t (congrArg B hb13) rfl) ?_
    refine w_end ?_
    obtain rfl := Option.some.inj h
    exact ⟨rfl, _, σ12, fr_join ⟨rfl, rfl, rfl, rfl, rfl, trivial⟩, rfl, H.sel' [1, 2, 0] rfl rfl⟩
   ·replace h := bif_f hb13 h
    refine st_g (v := (I part_2)) (congrArg some hb13) (rv_move rfl) ?_
    obtain ⟨r14, hx15, h'⟩ := bind_some h
    clear h
    have h := h'; clear h'
    have hc16 := c_spec_inRange hx15
    refine st_call (cx_call hc16 (ent_f hc16.fn rfl) hn0 (show Hp S0 σ0 _ ([] ++ [Ch.own n0 n0 (Sl (some ⟨b1, 0, none⟩) ([] : List Int) 0) ([] : List Int), Ch.ro 0 (Sl aa_0 a_0 ca_0) a_0, Ch.ro 0 (Sl ab_1 b_1 cb_1) b_1]) from (H.sel' [0, 1, 2] rfl rfl))) (wanted_yes rfl (by exact (congrArg some hb13))) ?_
    rintro _ σ17 ⟨_, ⟨rfl, rfl⟩, H, -⟩
    replace H : Hp S0 σ0 σ17 [Ch.own n0 n0 (Sl (some ⟨b1, 0, none⟩) ([] : List Int) 0) ([] : List Int), Ch.ro 0 (Sl aa_0 a_0 ca_0) a_0, Ch.ro 0 (Sl ab_1 b_1 cb_1) b_1] := H
    refine st_g (v := (B (!r14))) (congrArg some hb13) (rv_not rfl) ?_
    refine st (v := (B (!r14))) (rv_pick_f (congrArg B hb13) rfl) ?_
    refine w_end ?_
    obtain rfl := Option.some.inj h
    exact ⟨rfl, _, σ17, fr_join ⟨rfl, rfl, rfl, rfl, rfl, trivial⟩, rfl, H.sel' [1, 2, 0] rfl rfl⟩
 ·clear hj
  have h := h'
  clear h' H
  rintro e a w ⟨rfl, ρ, σ18, rfl, rfl, H⟩
  refine q_then ?_
  refine cd_cond o3 rfl (fun hb19 => ?_) (fun hb19 => ?_)
  ·replace h := bif_t hb19 h
   refine c_seq ?_
   refine rg ?_
   refine st (v := (.slice none 0 0)) (rv_assign rfl) ?_
   refine w_end ?_
   refine q_then ?_
   refine c_ret ?_
   refine q_then_r ?_
   replace H := H.nilOwn Int n0 n0
   obtain rfl := Option.some.inj h
   exact fin_ret (v := (.slice none 0 0)) (results_ok Try.results22 (res_tmp (v := (.slice none 0 0)) rfl res_nil) rfl) ⟨none, 0, rfl, rfl⟩ (H.sel' [0] rfl rfl)
  ·replace h := bif_f hb19 h
   refine c_skip ?_
   refine q_then ?_
   refine c_seq ?_
   refine c_seq ?_
   refine rg ?_
   refine st (v := (I 0)) (rv_assign rfl) ?_
   refine w_end ?_
   refine q_then ?_
   obtain ⟨o20, hj, h'⟩ := bind_some h
   clear h
   refine c_cut (fun e a w => e = .normal ∧ ∃ (ρ : Nat → Value) (σ : St) (aj1 : Option Addr) (cj2 : Nat), a = fr 48 (updL ρ [(7, (Sl aj1 o20 cj2))]) ∧ w = σ.w ∧ Hp S0 σ0 σ [Ch.own n0 n0 (Sl aj1 o20 cj2) o20]) ?_ ?_
   ·clear h'
    rename _ = some o20 => h
    refine c_blk ?_
    refine wp_loopM _ h (fun s21 a w => ∃ (ρ : Nat → Value) (σ : St) (aj1 : Option Addr) (cj2 : Nat), a = fr 48 (updL ρ [(0, (Sl aa_0 a_0 ca_0)), (1, (Sl ab_1 b_1 cb_1)), (2, (I part_2)), (7, (Sl aj1 s21.1 cj2)), (8, (I s21.2))]) ∧ w = σ.w ∧ Hp S0 σ0 σ [Ch.ro 0 (Sl aa_0 a_0 ca_0) a_0, Ch.ro 0 (Sl ab_1 b_1 cb_1) b_1, Ch.own n0 n0 (Sl aj1 s21.1 cj2) s21.1]) ⟨_, σ18, (some ⟨b1, 0, none⟩), 0, fr_join ⟨rfl, rfl, rfl, rfl, rfl, trivial⟩, rfl, H.sel' [0, 1, 2] rfl rfl⟩ ?_
    clear h H
    rintro s21 a w o ⟨ρ, σ22, a23, c24, rfl, rfl, H⟩ h hres
    refine c_seq ?_
    refine c_seq ?_
    refine rg ?_
    refine st (v := (I s21.2)) (rv_move rfl) ?_
    refine st (v := (B (decide (s21.2 < 4)))) (rv_lss (a := s21.2) (b := 4) rfl rfl) ?_
    refine w_end ?_
    refine q_then ?_
    refine cd_cond (decide (s21.2 < 4)) rfl (fun hb25 => ?_) (fun hb25 => ?_)
    ·replace h := bif_t hb25 h
     refine c_skip ?_
     refine q_then ?_
     refine c_seq ?_
     refine c_blk ?_
     obtain ⟨x26, hx27, h'⟩ := bind_some h
     clear h
     have h := h'; clear h'
     obtain ⟨b29, o30, hi28, -⟩ := (H.ro 0 rfl).ix hx27
     have hc31 := ((H.ro 0 rfl).at hx27 hi28).int
     obtain ⟨x32, hx33, h'⟩ := bind_some h
     clear h
     have h := h'; clear h'
     obtain ⟨b35, o36, hi34, -⟩ := (H.ro 1 rfl).ix hx33
     have hc37 := ((H.ro 1 rfl).at hx33 hi34).int
     obtain ⟨x38, hx39, h'⟩ := bind_some h
     clear h
     have h := h'; clear h'
     obtain ⟨b41, o42, hi40, -⟩ := (H.ro 0 rfl).ix hx39
     have hc43 := ((H.ro 0 rfl).at hx39 hi40).int
     obtain ⟨r44, hx45, h'⟩ := bind_some h
     clear h
     have h := h'; clear h'
     have hc46 := c_spec_floorDiv hx45
     have Hs := H
     refine rg2 (σ := σ22) (Nm := (Nat)) 19 [16, 18] [[false, false], [true, false], [true, true]] [[(0, 0), (1, 1), (2, 2)], [(0, 0), (1, 1)], [(0, 0), (1, 1)], [(0, 0), (1, 1)], [(0, 0), (1, 1)], [(0, 0)], [(0, 0)], [(0, 0)], [(0, 0)], [(0, 0)], [(0, 0)], [(0, 0)], [(0, 0)], [(0, 0)], [(0, 0)], [(0, 0)], [(0, 1)], [(1, 1)], [(1, 2)]] 2 [fun (b47 : (Nat)) => fun σm => Hp S0 σ0 σm [Ch.ro 0 (Sl aa_0 a_0 ca_0) a_0, Ch.ro 0 (Sl ab_1 b_1 cb_1) b_1, Ch.own n0 n0 (Sl a23 s21.1 c24) s21.1] ∧ Md (cov []) σ22 σm, fun (b47 : (Nat)) => fun σm => Hp S0 σ0 σm [Ch.ro 0 (Sl aa_0 a_0 ca_0) a_0, Ch.ro 0 (Sl ab_1 b_1 cb_1) b_1, Ch.own n0 n0 (Sl a23 s21.1 c24) s21.1] ∧ Md (cov []) σ22 σm, fun (b47 : (Nat)) => fun σm => Hp S0 σ0 σm [Ch.own n0 n0 (Sl (some ⟨b47, 0, none⟩) ([w64 (x26 + r44)] : List Int) 1) ([w64 (x26 + r44)] : List Int), Ch.ro 0 (Sl aa_0 a_0 ca_0) a_0, Ch.ro 0 (Sl ab_1 b_1 cb_1) b_1, Ch.own n0 n0 (Sl a23 s21.1 c24) s21.1] ∧ Md (cov []) σ22 σm] [fun (b47 : (Nat)) => (Sl a23 s21.1 c24), fun (b47 : (Nat)) => (Sl aa_0 a_0 ca_0), fun (b47 : (Nat)) => (I s21.2), fun (b47 : (Nat)) => (pt b29 o30), fun (b47 : (Nat)) => (I x26), fun (b47 : (Nat)) => (Sl ab_1 b_1 cb_1), fun (b47 : (Nat)) => (I s21.2), fun (b47 : (Nat)) => (pt b35 o36), fun (b47 : (Nat)) => (I x32), fun (b47 : (Nat)) => (Sl aa_0 a_0 ca_0), fun (b47 : (Nat)) => (I s21.2), fun (b47 : (Nat)) => (pt b41 o42), fun (b47 : (Nat)) => (I x38), fun (b47 : (Nat)) => (I (w64 (x32 - x38))), fun (b47 : (Nat)) => (I part_2), fun (b47 : (Nat)) => (I (w64 ((w64 (x32 - x38)) * part_2))), fun (b47 : (Nat)) => (I r44), fun (b47 : (Nat)) => (I (w64 (x26 + r44))), fun (b47 : (Nat)) => (Sl (some ⟨b47, 0, none⟩) ([w64 (x26 + r44)] : List Int) 1)] (0) (by kernel_rfl) (by kernel_rfl) ?_ ?_ ?_
     ·intro σm m0
      exact ⟨H.grow (m0.mono fun _ h => h.elim), m0⟩
     ·refine ac rfl (by
        intro k b47 ρ σm hJ hoff hdep
        have e7 := look_off (N := 48) (hoff 7 rfl) rfl
        exact dp_v (v := (Sl a23 s21.1 c24)) wn (rv_move e7) rfl hJ) ?_
      refine ac rfl (by
        intro k b47 ρ σm hJ hoff hdep
        have e0 := look_off (N := 48) (hoff 0 rfl) rfl
        exact dp_v (v := (Sl aa_0 a_0 ca_0)) wn (rv_move e0) rfl hJ) ?_
      refine ac rfl (by
        intro k b47 ρ σm hJ hoff hdep
        have e8 := look_off (N := 48) (hoff 8 rfl) rfl
        exact dp_v (v := (I s21.2)) wn (rv_move e8) rfl hJ) ?_
      refine ac rfl (by
        intro k b47 ρ σm hJ hoff hdep
        have e28 := hdep 1 rfl rfl 28 rfl
        have e29 := hdep 2 rfl rfl 29 rfl
        exact dp_v (v := (pt b29 o30)) wn (rv_ix Try.underlying24 ti3 e28 e29 hi28) rfl hJ) ?_
      refine all_cons (by
        refine ⟨?_, ?_⟩
        ·intro b47 ρ σm hJ hoff hdep
         have e30 := hdep 3 rfl rfl 30 rfl
         obtain ⟨H, m⟩ := id hJ
         replace hc31 := (Hs.ro 0 rfl).hmd hx27 hi28 (k := 0) (by decide) hc31 m
         exact dp_v (v := (I x26)) wn (rv_load1 Try.underlying3 rfl e30 hc31) rfl hJ
        refine ⟨?_, ?_⟩
        ·intro b47 ρ σm hJ hoff hdep
         have e30 := hdep 3 rfl rfl 30 rfl
         obtain ⟨H, m⟩ := id hJ
         replace hc31 := (Hs.ro 0 rfl).hmd hx27 hi28 (k := 0) (by decide) hc31 m
         exact dp_v (v := (I x26)) wn (rv_load1 Try.underlying3 rfl e30 hc31) rfl hJ
        trivial) ?_
      refine ac rfl (by
        intro k b47 ρ σm hJ hoff hdep
        have e1 := look_off (N := 48) (hoff 1 rfl) rfl
        exact dp_v (v := (Sl ab_1 b_1 cb_1)) wn (rv_move e1) rfl hJ) ?_
      refine ac rfl (by
        intro k b47 ρ σm hJ hoff hdep
        have e8 := look_off (N := 48) (hoff 8 rfl) rfl
        exact dp_v (v := (I s21.2)) wn (rv_move e8) rfl hJ) ?_
      refine ac rfl (by
        intro k b47 ρ σm hJ hoff hdep
        have e32 := hdep 5 rfl rfl 32 rfl
        have e33 := hdep 6 rfl rfl 33 rfl
        exact dp_v (v := (pt b35 o36)) wn (rv_ix Try.underlying24 ti3 e32 e33 hi34) rfl hJ) ?_
      refine all_cons (by
        refine ⟨?_, ?_⟩
        ·intro b47 ρ σm hJ hoff hdep
         have e34 := hdep 7 rfl rfl 34 rfl
         obtain ⟨H, m⟩ := id hJ
         replace hc37 := (Hs.ro 1 rfl).hmd hx33 hi34 (k := 0) (by decide) hc37 m
         exact dp_v (v := (I x32)) wn (rv_load1 Try.underlying3 rfl e34 hc37) rfl hJ
        trivial) ?_
      refine ac rfl (by
        intro k b47 ρ σm hJ hoff hdep
        have e0 := look_off (N := 48) (hoff 0 rfl) rfl
        exact dp_v (v := (Sl aa_0 a_0 ca_0)) wn (rv_move e0) rfl hJ) ?_
      refine ac rfl (by
        intro k b47 ρ σm hJ hoff hdep
        have e8 := look_off (N := 48) (hoff 8 rfl) rfl
        exact dp_v (v := (I s21.2)) wn (rv_move e8) rfl hJ) ?_
      refine ac rfl (by
        intro k b47 ρ σm hJ hoff hdep
        have e36 := hdep 9 rfl rfl 36 rfl
        have e37 := hdep 10 rfl rfl 37 rfl
        exact dp_v (v := (pt b41 o42)) wn (rv_ix Try.underlying24 ti3 e36 e37 hi40) rfl hJ) ?_
      refine all_cons (by
        refine ⟨?_, ?_⟩
        ·intro b47 ρ σm hJ hoff hdep
         have e38 := hdep 11 rfl rfl 38 rfl
         obtain ⟨H, m⟩ := id hJ
         replace hc43 := (Hs.ro 0 rfl).hmd hx39 hi40 (k := 0) (by decide) hc43 m
         exact dp_v (v := (I x38)) wn (rv_load1 Try.underlying3 rfl e38 hc43) rfl hJ
        trivial) ?_
      refine ac rfl (by
        intro k b47 ρ σm hJ hoff hdep
        have e35 := hdep 8 rfl rfl 35 rfl
        have e39 := hdep 12 rfl rfl 39 rfl
        exact dp_v (v := (I (w64 (x32 - x38)))) wn (rv_sub (a := x32) (b := x38) e35 e39) rfl hJ) ?_
      refine ac rfl (by
        intro k b47 ρ σm hJ hoff hdep
        have e2 := look_off (N := 48) (hoff 2 rfl) rfl
        exact dp_v (v := (I part_2)) wn (rv_move e2) rfl hJ) ?_
      refine ac rfl (by
        intro k b47 ρ σm hJ hoff hdep
        have e40 := hdep 13 rfl rfl 40 rfl
        have e41 := hdep 14 rfl rfl 41 rfl
        exact dp_v (v := (I (w64 ((w64 (x32 - x38)) * part_2)))) wn (rv_mul (a := (w64 (x32 - x38))) (b := part_2) e40 e41) rfl hJ) ?_
      refine all_cons (by
        refine ⟨?_, ?_⟩
        ·intro b47 ρ σm hJ hoff hdep
         have e42 : look 48 ρ 42 = (I (w64 ((w64 (x32 - x38)) * part_2))) := hdep 15 rfl rfl 42 rfl
         obtain ⟨H, m⟩ := id hJ
         refine dp_cx wn (cx_call hc46 (ent_f hc46.fn (by show [look 48 ρ 42, (I 1000)] = _; rw [e42])) hn0 (show Hp S0 σ0 _ ([] ++ [Ch.ro 0 (Sl aa_0 a_0 ca_0) a_0, Ch.ro 0 (Sl ab_1 b_1 cb_1) b_1, Ch.own n0 n0 (Sl a23 s21.1 c24) s21.1]) from (H.sel' [0, 1, 2] rfl rfl))) ?_
         rintro _ σq ⟨_, ⟨rfl, rfl⟩, H2, m2⟩
         exact ⟨_, b47, rfl, rfl, ⟨H2.sel' [0, 1, 2] rfl rfl, m.comp0 m2⟩, stab [0, 1, 2, 3, 4, 5, 6, 7, 8, 9, 10, 11, 12, 13, 14, 15] (by kernel_rfl) ⟨rfl, rfl, rfl, rfl, rfl, rfl, rfl, rfl, rfl, rfl, rfl, rfl, rfl, rfl, rfl, rfl, trivial⟩⟩
        trivial) ?_
      refine ac rfl (by
        intro k b47 ρ σm hJ hoff hdep
        have e31 := hdep 4 rfl rfl 31 rfl
        have e43 := hdep 16 rfl rfl 43 rfl
        exact dp_v (v := (I (w64 (x26 + r44)))) wn (rv_add (a := x26) (b := r44) e31 e43) rfl hJ) ?_
      refine all_cons (by
        refine ⟨?_, ?_⟩
        ·intro b47 ρ σm hJ hoff hdep
         have e44 : look 48 ρ 44 = (I (w64 (x26 + r44))) := hdep 17 rfl rfl 44 rfl
         obtain ⟨H, m⟩ := id hJ
         refine dp_ex wn (ex_buildSlice (el := n0) (xs := ([w64 (x26 + r44)] : List Int)) (ps := [(0, (I (w64 (x26 + r44))))]) (cs := [(I (w64 (x26 + r44)))]) H hn0 Try.underlying24 ti3 rfl (by show [(0, look 48 ρ 44)] = _; rw [e44]) (by kernel_rfl) (.cons (c := [(I (w64 (x26 + r44)))]) rfl (.nil)) rfl) ?_
         rintro _ σq ⟨b47x, rfl, H2, m2⟩
         exact ⟨_, b47x, rfl, rfl, ⟨H2.sel' [0, 1, 2, 3] rfl rfl, m.comp0 m2⟩, stab [0, 1, 2, 3, 4, 5, 6, 7, 8, 9, 10, 11, 12, 13, 14, 15, 16, 17] (by kernel_rfl) ⟨rfl, rfl, rfl, rfl, rfl, rfl, rfl, rfl, rfl, rfl, rfl, rfl, rfl, rfl, rfl, rfl, rfl, rfl, trivial⟩⟩
        trivial) ?_
      exact all_nil
     ·intro b47 ρ σ48 hJ hoff hrel
      have e0 := look_off (N := 48) (hoff 0 rfl) rfl
      have e1 := look_off (N := 48) (hoff 1 rfl) rfl
      have e2 := look_off (N := 48) (hoff 2 rfl) rfl
      have e8 := look_off (N := 48) (hoff 8 rfl) rfl
      have e27 := hrel 0 rfl 27 rfl
      have e45 := hrel 18 rfl 45 rfl
      obtain ⟨H, -⟩ := (show Hp S0 σ0 σ48 [Ch.own n0 n0 (Sl (some ⟨b47, 0, none⟩) ([w64 (x26 + r44)] : List Int) 1) ([w64 (x26 + r44)] : List Int), Ch.ro 0 (Sl aa_0 a_0 ca_0) a_0, Ch.ro 0 (Sl ab_1 b_1 cb_1) b_1, Ch.own n0 n0 (Sl a23 s21.1 c24) s21.1] ∧ Md (cov []) σ22 σ48 from hJ)
      clear hJ Hs
      rw [fr_lookL (L := [(0, (Sl aa_0 a_0 ca_0)), (1, (Sl ab_1 b_1 cb_1)), (2, (I part_2)), (8, (I s21.2)), (27, (Sl a23 s21.1 c24)), (45, (Sl (some ⟨b47, 0, none⟩) ([w64 (x26 + r44)] : List Int) 1))]) ⟨e0, e1, e2, e8, e27, e45, trivial⟩]
      clear hoff hrel e0 e1 e2 e8 e27 e45
      obtain ⟨xs49, hx50, h'⟩ := bind_some h
      clear h
      have h := h'; clear h'
      refine st_ex (ex_append H (i := 3) rfl Try.underlying24 Try.underlying24 ti3 rfl rfl (by decide) (H.own 0 rfl).rd hx50 hn0 rfl rfl) wn ?_
      rintro _ σ53 ⟨a51, c52, rfl, H, -⟩
      refine st (v := (Sl a51 xs49 c52)) (rv_assign rfl) ?_
      refine w_end ?_
      refine q_blk ?_
      refine q_then ?_
      refine rg ?_
      refine st (v := (I s21.2)) (rv_move rfl) ?_
      refine st (v := (I (w64 (s21.2 + 1)))) (rv_add (a := s21.2) (b := 1) rfl rfl) ?_
      refine st (v := (I (w64 (s21.2 + 1)))) (rv_assign rfl) ?_
      refine w_end ?_
      refine q_then ?_
      obtain rfl := Option.some.inj h
      exact ⟨_, rfl, _, σ53, a51, c52, fr_join ⟨rfl, rfl, rfl, rfl, rfl, trivial⟩, rfl, H.sel' [2, 3, 0] rfl rfl⟩
    ·replace h := bif_f hb25 h
     refine c_exit ?_
     refine q_then_x ?_
     refine q_then_x ?_
     refine q_blk_hit ?_
     obtain rfl := Option.some.inj h
     obtain rfl := hres _ rfl
     exact ⟨rfl, _, σ22, a23, c24, fr_join ⟨rfl, trivial⟩, rfl, H.sel' [2] rfl rfl⟩
   ·clear hj
    have h := h'
    clear h' H
    rintro e a w ⟨rfl, ρ, σ54, a55, c56, rfl, rfl, H⟩
    refine q_then ?_
    refine c_seq ?_
    refine rg ?_
    refine st (v := (Sl a55 o20 c56)) (rv_move rfl) ?_
    refine st (v := (Sl a55 o20 c56)) (rv_assign rfl) ?_
    refine w_end ?_
    refine q_then ?_
    refine c_ret ?_
    obtain rfl := Option.some.inj h
    exact fin_ret (v := (Sl a55 o20 c56)) (results_ok Try.results22 (res_tmp (v := (Sl a55 o20 c56)) rfl res_nil) rfl) ⟨a55, c56, rfl, rfl⟩ (H.sel' [0] rfl rfl)

theorem c_laws_toIntS {a_0 : List Int} {aa_0 : Option Addr} {ca_0 : Nat} {r : (List Int)} (h : M.laws_toIntS a_0 = some r) :
    Cal2 Try.prog 23 [(Sl aa_0 a_0 ca_0)] [Ch.ro 0 (Sl aa_0 a_0 ca_0) a_0] (fun n0 v L => ∃ (az1 : Option Addr), ∃ (cz2 : Nat), v = (Sl az1 r cz2) ∧ L = [Ch.own n0 n0 (Sl az1 r cz2) r] ∧ cz2 = r.length) := by
 refine cal2 (n := 22) Try.func23 rfl rfl rfl rfl ?_
 intro S0 σ0 n0 hn0 H
 unfold M.laws_toIntS at h
 refine c_seq ?_
 refine rg ?_
 refine st (v := (.slice none 0 0)) (rv_assign rfl) ?_
 refine w_end ?_
 refine q_then ?_
 refine c_seq ?_
 refine rg ?_
 refine st (v := (Sl aa_0 a_0 ca_0)) (rv_move rfl) ?_
 refine st (v := (I (a_0.length : Int))) (rv_len Try.underlying24 rfl) ?_
 obtain ⟨xs1, hx2, h'⟩ := bind_some h
 clear h
 have h := h'; clear h'
 refine st_ex (ex_make (el := n0) (z0 := (0 : Int)) (zs := [(I 0)]) H hn0 Try.underlying24 ti3 rfl rfl rfl (by decide) hx2 rfl rfl) wn ?_
 rintro _ σ6 ⟨b3, c4, rfl, ht5, H, -⟩
 replace ht5 := ht5.trans (gmake_len hx2).symm
 refine st (v := (Sl (some ⟨b3, 0, none⟩) xs1 c4)) (rv_assign rfl) ?_
 refine w_end ?_
 refine q_then ?_
 refine c_seq ?_
 refine c_seq ?_
 refine rg ?_
 refine st (v := (I 0)) (rv_assign rfl) ?_
 refine w_end ?_
 refine q_then ?_
 obtain ⟨o7, hj, h'⟩ := bind_some h
 clear h
 refine c_cut (fun e a w => e = .normal ∧ ∃ (ρ : Nat → Value) (σ : St), a = fr 22 (updL ρ [(3, (Sl (some ⟨b3, 0, none⟩) o7 c4))]) ∧ w = σ.w ∧ Hp S0 σ0 σ [Ch.own n0 n0 (Sl (some ⟨b3, 0, none⟩) o7 c4) o7] ∧ c4 = o7.length ∧ o7.length = xs1.length) ?_ ?_
 ·clear h'
  rename _ = some o7 => h
  refine c_blk ?_
  refine wp_loopM _ h (fun s8 a w => ∃ (ρ : Nat → Value) (σ : St), a = fr 22 (updL ρ [(0, (Sl aa_0 a_0 ca_0)), (3, (Sl (some ⟨b3, 0, none⟩) s8.1 c4)), (4, (I s8.2))]) ∧ w = σ.w ∧ Hp S0 σ0 σ [Ch.ro 0 (Sl aa_0 a_0 ca_0) a_0, Ch.own n0 n0 (Sl (some ⟨b3, 0, none⟩) s8.1 c4) s8.1] ∧ c4 = s8.1.length ∧ s8.1.length = xs1.length) ⟨_, σ6, fr_join ⟨rfl, rfl, rfl, trivial⟩, rfl, H.sel' [1, 0] rfl rfl, ht5, rfl⟩ ?_
  clear h H
  rintro s8 a w o ⟨ρ, σ9, rfl, rfl, H, ht10, hn11⟩ h hres
  refine c_seq ?_
  refine c_seq ?_
  refine rg ?_
  refine st (v := (I s8.2)) (rv_move rfl) ?_
  refine st (v := (Sl aa_0 a_0 ca_0)) (rv_move rfl) ?_
  refine st (v := (I (a_0.length : Int))) (rv_len Try.underlying24 rfl) ?_
  refine st (v := (B (decide (s8.2 < (a_0.length : Int))))) (rv_lss (a := s8.2) (b := (a_0.length : Int)) rfl rfl) ?_
  refine w_end ?_
  refine q_then ?_
  refine cd_cond (decide (s8.2 < (a_0.length : Int))) rfl (fun hb12 => ?_) (fun hb12 => ?_)
  ·replace h := bif_t hb12 h
   refine c_skip ?_
   refine q_then ?_
   refine c_seq ?_
   refine c_blk ?_
   refine rg ?_
   refine st (v := (Sl (some ⟨b3, 0, none⟩) s8.1 c4)) (rv_move rfl) ?_
   refine st (v := (I s8.2)) (rv_move rfl) ?_
   refine st (v := (Sl aa_0 a_0 ca_0)) (rv_move rfl) ?_
   refine st (v := (I s8.2)) (rv_move rfl) ?_
   obtain ⟨x13, hx14, h'⟩ := bind_some h
   clear h
   have h := h'; clear h'
   obtain ⟨b16, o17, hi15, -⟩ := (H.ro 0 rfl).ix hx14
   refine st (v := (pt b16 o17)) (rv_ix Try.underlying24 ti3 rfl rfl hi15) ?_
   have hc18 := ((H.ro 0 rfl).at hx14 hi15).int
   refine st (v := (I x13)) (rv_load1 Try.underlying3 rfl rfl hc18) ?_
   obtain ⟨x19, hx20, h'⟩ := bind_some h
   clear h
   have h := h'; clear h'
   obtain ⟨b22, o23, hi21, -⟩ := (H.own 1 rfl).ix hx20
   refine st (v := (pt b22 o23)) (rv_ix Try.underlying24 ti3 rfl rfl hi21) ?_
   refine st_exS (ex_store_own (e' := x13) (vs := [(I x13)]) (k := 0) H (i := 1) rfl ti3 hx20 hi21 rfl rfl rfl rfl rfl (Nat.le_of_ble_eq_true rfl) (by simp [plain]) (by rintro _ rfl; exact rfl)) wn ?_
   rintro σ24 ⟨H, -⟩
   have hsl : (Sl (some ⟨b3, 0, none⟩) s8.1 c4) = (Sl (some ⟨b3, 0, none⟩) (s8.1.set s8.2.toNat x13) c4) := sl_len List.length_set.symm
   rw [hsl]; rw [hsl] at H; clear hsl
   refine w_end ?_
   refine q_blk ?_
   refine q_then ?_
   refine rg ?_
   refine st (v := (I s8.2)) (rv_move rfl) ?_
   refine st (v := (I (w64 (s8.2 + 1)))) (rv_add (a := s8.2) (b := 1) rfl rfl) ?_
   refine st (v := (I (w64 (s8.2 + 1)))) (rv_assign rfl) ?_
   refine w_end ?_
   refine q_then ?_
   obtain rfl := Option.some.inj h
   exact ⟨_, rfl, _, σ24, fr_join ⟨rfl, rfl, rfl, trivial⟩, rfl, H.sel' [1, 0] rfl rfl, (ht10.trans List.length_set.symm), (List.length_set.trans hn11)⟩
  ·replace h := bif_f hb12 h
   refine c_exit ?_
   refine q_then_x ?_
   refine q_then_x ?_
   refine q_blk_hit ?_
   obtain rfl := Option.some.inj h
   obtain rfl := hres _ rfl
   exact ⟨rfl, _, σ9, fr_join ⟨rfl, trivial⟩, rfl, H.sel' [1] rfl rfl, ht10, hn11⟩
 ·clear hj
  have h := h'
  clear h' H
  rintro e a w ⟨rfl, ρ, σ25, rfl, rfl, H, ht26, hn27⟩
  refine q_then ?_
  refine c_seq ?_
  refine rg ?_
  refine st (v := (Sl (some ⟨b3, 0, none⟩) o7 c4)) (rv_move rfl) ?_
  refine st (v := (Sl (some ⟨b3, 0, none⟩) o7 c4)) (rv_assign rfl) ?_
  refine w_end ?_
  refine q_then ?_
  refine c_ret ?_
  obtain rfl := Option.some.inj h
  exact fin_ret (v := (Sl (some ⟨b3, 0, none⟩) o7 c4)) (results_ok Try.results23 (res_tmp (v := (Sl (some ⟨b3, 0, none⟩) o7 c4)) rfl res_nil) rfl) ⟨(some ⟨b3, 0, none⟩), c4, rfl, rfl, ht26⟩ (H.sel' [0] rfl rfl)

theorem c_impl_divideDown {n_0 : Int} {by_1 : Int}  {r : Int} (h : M.impl_divideDown n_0 by_1 = some r) :
    Cal2 Try.prog 51 [(I n_0), (I by_1)] [] (fun n0 v L => v = (I r) ∧ L = []) := by
 refine cal2 (n := 16) Try.func51 rfl rfl rfl rfl ?_
 intro S0 σ0 n0 hn0 H
 unfold M.impl_divideDown at h
 refine c_seq ?_
 refine rg ?_
 refine st (v := (I 0)) (rv_assign rfl) ?_
 refine w_end ?_
 refine q_then ?_
 refine c_seq ?_
 refine rg ?_
 refine st (v := (I n_0)) (rv_move rfl) ?_
 refine st (v := (I by_1)) (rv_move rfl) ?_
 obtain ⟨q1, hx2, h'⟩ := bind_some h
 clear h
 have h := h'; clear h'
 refine st (v := (I q1)) (rv_quoG (a := n_0) (b := by_1) hx2 rfl rfl) ?_
 refine st (v := (I q1)) (rv_assign rfl) ?_
 refine w_end ?_
 refine q_then ?_
 refine c_seq ?_
 refine c_seq ?_
 refine rg ?_
 refine st (v := (I n_0)) (rv_move rfl) ?_
 refine st (v := (I by_1)) (rv_move rfl) ?_
 obtain ⟨q3, hx4, h'⟩ := bind_some h
 clear h
 have h := h'; clear h'
 refine st (v := (I q3)) (rv_remG (a := n_0) (b := by_1) hx4 rfl rfl) ?_
 refine st (v := (B (decide (q3 < 0)))) (rv_lss (a := q3) (b := 0) rfl rfl) ?_
 refine w_end ?_
 refine q_then ?_
 obtain ⟨o5, hj, h'⟩ := bind_some h
 clear h
 refine c_cut (fun e a w => e = .normal ∧ ∃ (ρ : Nat → Value) (σ : St), a = fr 16 (updL ρ [(5, (I o5))]) ∧ w = σ.w ∧ Hp S0 σ0 σ []) ?_ ?_
 ·clear h'
  rename _ = some o5 => h
  refine cd_cond (decide (q3 < 0)) rfl (fun hb6 => ?_) (fun hb6 => ?_)
  ·replace h := bif_t hb6 h
   refine rg ?_
   refine st (v := (I q1)) (rv_move rfl) ?_
   refine st (v := (I (w64 (q1 - 1)))) (rv_sub (a := q1) (b := 1) rfl rfl) ?_
   refine st (v := (I (w64 (q1 - 1)))) (rv_assign rfl) ?_
   refine w_end ?_
   obtain rfl := Option.some.inj h
   exact ⟨rfl, _, σ0, fr_join ⟨rfl, trivial⟩, rfl, H.sel' [] rfl rfl⟩
  ·replace h := bif_f hb6 h
   refine c_skip ?_
   obtain rfl := Option.some.inj h
   exact ⟨rfl, _, σ0, fr_join ⟨rfl, trivial⟩, rfl, H.sel' [] rfl rfl⟩
 ·clear hj
  have h := h'
  clear h' H
  rintro e a w ⟨rfl, ρ, σ7, rfl, rfl, H⟩
  refine q_then ?_
  refine c_seq ?_
  refine rg ?_
  refine st (v := (I o5)) (rv_move rfl) ?_
  refine st (v := (I o5)) (rv_assign rfl) ?_
  refine w_end ?_
  refine q_then ?_
  refine c_ret ?_
  obtain rfl := Option.some.inj h
  exact fin_ret (v := (I o5)) (results_ok Try.results51 (res_tmp (v := (I o5)) rfl res_nil) rfl) ⟨rfl, rfl⟩ (H.sel' [] rfl rfl)

theorem c_impl_validCoords {coords_0 : List Int} {acoords_0 : Option Addr} {ccoords_0 : Nat} {r : Bool} (h : M.impl_validCoords coords_0 = some r) :
    Cal2 Try.prog 88 [(Sl acoords_0 coords_0 ccoords_0)] [Ch.ro 0 (Sl acoords_0 coords_0 ccoords_0) coords_0] (fun n0 v L => v = (B r) ∧ L = []) := by
 refine cal2 (n := 18) Try.func88 rfl rfl rfl rfl ?_
 intro S0 σ0 n0 hn0 H
 unfold M.impl_validCoords at h
 refine c_seq ?_
 refine rg ?_
 refine st (v := (B false)) (rv_assign rfl) ?_
 refine w_end ?_
 refine q_then ?_
 refine c_seq ?_
 refine c_seq ?_
 refine rg ?_
 refine st (v := (Sl acoords_0 coords_0 ccoords_0)) (rv_move rfl) ?_
 refine st (v := (I (coords_0.length : Int))) (rv_len Try.underlying24 rfl) ?_
 refine st (v := (I 0)) (rv_move rfl) ?_
 refine w_end ?_
 refine q_then ?_
 obtain ⟨o1, hj, h'⟩ := bind_some h
 clear h
 refine c_cut (fun e a w => (∃ t, o1 = (.inl t) ∧ e = .normal ∧ ∃ (ρ : Nat → Value) (σ : St), a = fr 18 (updL ρ []) ∧ w = σ.w ∧ Hp S0 σ0 σ []) ∨ (∃ t, o1 = (.inr t) ∧ e = .ret ∧ ∃ (ρ : Nat → Value) (σ : St), a = fr 18 (updL ρ [(2, (B t))]) ∧ w = σ.w ∧ Hp S0 σ0 σ [])) ?_ ?_
 ·clear h'
  rename _ = some o1 => h
  refine c_blk ?_
  refine wp_loopM _ h (fun s2 a w => ∃ (ρ : Nat → Value) (σ : St), a = fr 18 (updL ρ [(5, (Sl acoords_0 coords_0 ccoords_0)), (6, (I (coords_0.length : Int))), (7, (I s2))]) ∧ w = σ.w ∧ Hp S0 σ0 σ [Ch.ro 0 (Sl acoords_0 coords_0 ccoords_0) coords_0]) ⟨_, σ0, fr_join ⟨rfl, rfl, rfl, trivial⟩, rfl, H.sel' [0] rfl rfl⟩ ?_
  clear h H
  rintro s2 a w o ⟨ρ, σ3, rfl, rfl, H⟩ h hres
  refine c_seq ?_
  refine rg ?_
  refine st (v := (B (decide (s2 < (coords_0.length : Int))))) (rv_lss (a := s2) (b := (coords_0.length : Int)) rfl rfl) ?_
  refine w_end ?_
  refine q_then ?_
  refine c_seq ?_
  refine cd_cond (decide (s2 < (coords_0.length : Int))) rfl (fun hb4 => ?_) (fun hb4 => ?_)
  ·replace h := bif_t hb4 h
   refine c_skip ?_
   refine q_then ?_
   refine c_seq ?_
   refine c_blk ?_
   refine c_seq ?_
   refine rg ?_
   obtain ⟨x5, hx6, h'⟩ := bind_some h
   clear h
   have h := h'; clear h'
   obtain ⟨b8, o9, hi7, -⟩ := (H.ro 0 rfl).ix hx6
   refine st (v := (pt b8 o9)) (rv_ix Try.underlying24 ti3 rfl rfl hi7) ?_
   have hc10 := ((H.ro 0 rfl).at hx6 hi7).int
   refine st (v := (I x5)) (rv_load1 Try.underlying3 rfl rfl hc10) ?_
   refine st (v := (I x5)) (rv_assign rfl) ?_
   refine w_end ?_
   refine q_then ?_
   refine c_seq ?_
   obtain ⟨o11, hj, h'⟩ := bind_some h
   clear h
   refine c_cut (fun e a w => e = .normal ∧ ∃ (ρ : Nat → Value) (σ : St), a = fr 18 (updL ρ [(5, (Sl acoords_0 coords_0 ccoords_0)), (6, (I (coords_0.length : Int))), (7, (I s2)), (16, (B o11))]) ∧ w = σ.w ∧ Hp S0 σ0 σ [Ch.ro 0 (Sl acoords_0 coords_0 ccoords_0) coords_0]) ?_ ?_
   ·clear h'
    rename _ = some o11 => h
    refine rg ?_
    refine st (v := (I x5)) (rv_move rfl) ?_
    refine st (v := (B (decide (x5 < (-100))))) (rv_lss (a := x5) (b := (-100)) rfl rfl) ?_
    refine st (v := (B (decide (x5 < (-100))))) (rv_move rfl) ?_
    rcases Bool.eq_false_or_eq_true (decide (x5 < (-100))) with hb12 | hb12
    ·replace h := bif_t hb12 h
     refine st_skip (congrArg some hb12) ?_
     refine st_skip (congrArg some hb12) ?_
     refine st (v := (B true)) (rv_pick_t (congrArg B hb12) rfl) ?_
     refine w_end ?_
     obtain rfl := Option.some.inj h
     exact ⟨rfl, _, σ3, fr_join ⟨rfl, rfl, rfl, rfl, trivial⟩, rfl, H.sel' [0] rfl rfl⟩
    ·replace h := bif_f hb12 h
     refine st_g (v := (I x5)) (congrArg some hb12) (rv_move rfl) ?_
     refine st_g (v := (B (decide (100 < x5)))) (congrArg some hb12) (rv_gtr (a := x5) (b := 100) rfl rfl) ?_
     refine st (v := (B (decide (100 < x5)))) (rv_pick_f (congrArg B hb12) rfl) ?_
     refine w_end ?_
     obtain rfl := Option.some.inj h
     exact ⟨rfl, _, σ3, fr_join ⟨rfl, rfl, rfl, rfl, trivial⟩, rfl, H.sel' [0] rfl rfl⟩
   ·clear hj
    have h := h'
    clear h' H
    rintro e a w ⟨rfl, ρ, σ13, rfl, rfl, H⟩
    refine q_then ?_
    refine cd_cond o11 rfl (fun hb14 => ?_) (fun hb14 => ?_)
    ·replace h := bif_t hb14 h
     refine c_seq ?_
     refine rg ?_
     refine st (v := (B false)) (rv_assign rfl) ?_
     refine w_end ?_
     refine q_then ?_
     refine c_ret ?_
     refine q_blk_r ?_
     refine q_then_r ?_
     refine q_then_r ?_
     refine q_blk_r ?_
     obtain rfl := Option.some.inj h
     obtain rfl := hres _ rfl
     exact .inr (⟨_, rfl, rfl, _, σ13, fr_join ⟨rfl, trivial⟩, rfl, H.sel' [] rfl rfl⟩)
    ·replace h := bif_f hb14 h
     refine c_skip ?_
     refine q_blk ?_
     refine q_then ?_
     refine rg ?_
     refine st (v := (I (w64 (s2 + 1)))) (rv_add (a := s2) (b := 1) rfl rfl) ?_
     refine st (v := (I (w64 (s2 + 1)))) (rv_move rfl) ?_
     refine w_end ?_
     refine q_then ?_
     obtain rfl := Option.some.inj h
     exact ⟨_, rfl, _, σ13, fr_join ⟨rfl, rfl, rfl, trivial⟩, rfl, H.sel' [0] rfl rfl⟩
  ·replace h := bif_f hb4 h
   refine c_exit ?_
   refine q_then_x ?_
   refine q_then_x ?_
   refine q_blk_hit ?_
   obtain rfl := Option.some.inj h
   obtain rfl := hres _ rfl
   exact .inl ⟨_, rfl, rfl, _, σ3, fr_join trivial, rfl, H.sel' [] rfl rfl⟩
 ·clear hj
  have h := h'
  clear h' H
  rintro e a w (⟨t15, rfl, rfl, ρ, σ16, rfl, rfl, H⟩ | ⟨t17, rfl, rfl, ρ, σ18, rfl, rfl, H⟩)
  ·replace h := selim_l h
   refine q_then ?_
   refine c_seq ?_
   refine rg ?_
   refine st (v := (B true)) (rv_assign rfl) ?_
   refine w_end ?_
   refine q_then ?_
   refine c_ret ?_
   obtain rfl := Option.some.inj h
   exact fin_ret (v := (B true)) (results_ok Try.results88 (res_tmp (v := (B true)) rfl res_nil) rfl) ⟨rfl, rfl⟩ (H.sel' [] rfl rfl)
  ·replace h := selim_r h
   refine q_then_r ?_
   obtain rfl := Option.some.inj h
   exact fin_ret (v := (B t17)) (results_ok Try.results88 (res_tmp (v := (B t17)) rfl res_nil) rfl) ⟨rfl, rfl⟩ (H.sel' [] rfl rfl)

theorem c_impl_ValidVector {v_0 : List Int} {av_0 : Option Addr} {cv_0 : Nat} {r : Bool} (h : M.impl_ValidVector v_0 = some r) :
    Cal2 Try.prog 53 [(Sl av_0 v_0 cv_0)] [Ch.ro 0 (Sl av_0 v_0 cv_0) v_0] (fun n0 v L => v = (B r) ∧ L = []) := by
 refine cal2 (n := 10) Try.func53 rfl rfl rfl rfl ?_
 intro S0 σ0 n0 hn0 H
 unfold M.impl_ValidVector at h
 refine c_seq ?_
 refine rg ?_
 refine st (v := (B false)) (rv_assign rfl) ?_
 refine w_end ?_
 refine q_then ?_
 refine c_seq ?_
 refine rg ?_
 refine st (v := (Sl av_0 v_0 cv_0)) (rv_move rfl) ?_
 refine st (v := (I (v_0.length : Int))) (rv_len Try.underlying24 rfl) ?_
 refine st (v := (B ((v_0.length : Int) == 4))) (rv_eql (a := (v_0.length : Int)) (b := 4) rfl rfl) ?_
 refine st (v := (B ((v_0.length : Int) == 4))) (rv_move rfl) ?_
 rcases Bool.eq_false_or_eq_true ((v_0.length : Int) == 4) with hb1 | hb1
 ·replace h := bif_t hb1 h
  refine st_g (v := (Sl av_0 v_0 cv_0)) (congrArg some hb1) (rv_move rfl) ?_
  obtain ⟨r2, hx3, h'⟩ := bind_some h
  clear h
  have h := h'; clear h'
  have hc4 := c_impl_validCoords (acoords_0 := av_0) (ccoords_0 := cv_0) hx3
  refine st_call (cx_call hc4 (ent_f hc4.fn rfl) hn0 (show Hp S0 σ0 _ ([Ch.ro 0 (Sl av_0 v_0 cv_0) v_0] ++ [Ch.ro 0 (Sl av_0 v_0 cv_0) v_0]) from (H.sel' [0, 0] rfl rfl))) (wanted_yes rfl (by exact (congrArg some hb1))) ?_
  rintro _ σ5 ⟨_, ⟨rfl, rfl⟩, H, -⟩
  replace H : Hp S0 σ0 σ5 [Ch.ro 0 (Sl av_0 v_0 cv_0) v_0] := H
  refine st (v := (B r2)) (rv_pick_t (congrArg B hb1) rfl) ?_
  refine st (v := (B r2)) (rv_assign rfl) ?_
  refine w_end ?_
  refine q_then ?_
  refine c_ret ?_
  obtain rfl := Option.some.inj h
  exact fin_ret (v := (B r2)) (results_ok Try.results53 (res_tmp (v := (B r2)) rfl res_nil) rfl) ⟨rfl, rfl⟩ (H.sel' [] rfl rfl)
 ·replace h := bif_f hb1 h
  refine st_skip (congrArg some hb1) ?_
  refine st_skip (congrArg some hb1) ?_
  refine st (v := (B false)) (rv_pick_f (congrArg B hb1) rfl) ?_
  refine st (v := (B false)) (rv_assign rfl) ?_
  refine w_end ?_
  refine q_then ?_
  refine c_ret ?_
  obtain rfl := Option.some.inj h
  exact fin_ret (v := (B false)) (results_ok Try.results53 (res_tmp (v := (B false)) rfl res_nil) rfl) ⟨rfl, rfl⟩ (H.sel' [] rfl rfl)

theorem c_impl_MoveTo {a_0 : List Int} {b_1 : List Int} {part_2 : Int} {aa_0 : Option Addr} {ca_0 : Nat} {ab_1 : Option Addr} {cb_1 : Nat} {r : (List Int)} (h : M.impl_MoveTo a_0 b_1 part_2 = some r) :
    Cal2 Try.prog 24 [(Sl aa_0 a_0 ca_0), (Sl ab_1 b_1 cb_1), (I part_2)] [Ch.ro 0 (Sl aa_0 a_0 ca_0) a_0, Ch.ro 0 (Sl ab_1 b_1 cb_1) b_1] (fun n0 v L => ∃ (az1 : Option Addr), ∃ (cz2 : Nat), v = (Sl az1 r cz2) ∧ L = [Ch.own n0 n0 (Sl az1 r cz2) r] ∧ cz2 = r.length) := by
 refine cal2 (n := 49) Try.func24 rfl rfl rfl rfl ?_
 intro S0 σ0 n0 hn0 H
 unfold M.impl_MoveTo at h
 refine c_seq ?_
 refine rg ?_
 refine st (v := (.slice none 0 0)) (rv_assign rfl) ?_
 refine w_end ?_
 refine q_then ?_
 refine c_seq ?_
 refine c_seq ?_
 obtain ⟨o1, hj, h'⟩ := bind_some h
 clear h
 refine c_cut (fun e a w => e = .normal ∧ ∃ (ρ : Nat → Value) (σ : St), a = fr 49 (updL ρ [(0, (Sl aa_0 a_0 ca_0)), (1, (Sl ab_1 b_1 cb_1)), (2, (I part_2)), (24, (B o1))]) ∧ w = σ.w ∧ Hp S0 σ0 σ [Ch.ro 0 (Sl aa_0 a_0 ca_0) a_0, Ch.ro 0 (Sl ab_1 b_1 cb_1) b_1]) ?_ ?_
 ·clear h'
  rename _ = some o1 => h
  refine rg ?_
  refine st (v := (Sl aa_0 a_0 ca_0)) (rv_move rfl) ?_
  obtain ⟨r2, hx3, h'⟩ := bind_some h
  clear h
  have h := h'; clear h'
  have hc4 := c_impl_ValidVector (av_0 := aa_0) (cv_0 := ca_0) hx3
  refine st_call (cx_call hc4 (ent_f hc4.fn rfl) hn0 (show Hp S0 σ0 _ ([Ch.ro 0 (Sl aa_0 a_0 ca_0) a_0] ++ [Ch.ro 0 (Sl aa_0 a_0 ca_0) a_0, Ch.ro 0 (Sl ab_1 b_1 cb_1) b_1]) from (H.sel' [0, 0, 1] rfl rfl))) wn ?_
  rintro _ σ5 ⟨_, ⟨rfl, rfl⟩, H, -⟩
  replace H : Hp S0 σ0 σ5 [Ch.ro 0 (Sl aa_0 a_0 ca_0) a_0, Ch.ro 0 (Sl ab_1 b_1 cb_1) b_1] := H
  refine st (v := (B (!r2))) (rv_not rfl) ?_
  refine st (v := (B (!r2))) (rv_move rfl) ?_
  rcases Bool.eq_false_or_eq_true (!r2) with hb6 | hb6
  ·replace h := bif_t hb6 h
   refine st_skip (congrArg some hb6) ?_
   refine st_skip (congrArg some hb6) ?_
   refine st_skip (congrArg some hb6) ?_
   refine st (v := (B true)) (rv_pick_t (congrArg B hb6) rfl) ?_
   refine st (v := (B true)) (rv_move rfl) ?_
   refine st_skip rfl ?_
   refine st_skip rfl ?_
   refine st (v := (B true)) (rv_pick_t rfl rfl) ?_
   refine st (v := (B true)) (rv_move rfl) ?_
   refine st_skip rfl ?_
   refine st_skip rfl ?_
   refine st (v := (B true)) (rv_pick_t rfl rfl) ?_
   refine w_end ?_
   obtain rfl := Option.some.inj h
   exact ⟨rfl, _, σ5, fr_join ⟨rfl, rfl, rfl, rfl, trivial⟩, rfl, H.sel' [0, 1] rfl rfl⟩
  ·replace h := bif_f hb6 h
   refine st_g (v := (Sl ab_1 b_1 cb_1)) (congrArg some hb6) (rv_move rfl) ?_
   obtain ⟨r7, hx8, h'⟩ := bind_some h
   clear h
   have h := h'; clear h'
   have hc9 := c_impl_ValidVector (av_0 := ab_1) (cv_0 := cb_1) hx8
   refine st_call (cx_call hc9 (ent_f hc9.fn rfl) hn0 (show Hp S0 σ0 _ ([Ch.ro 0 (Sl ab_1 b_1 cb_1) b_1] ++ [Ch.ro 0 (Sl aa_0 a_0 ca_0) a_0, Ch.ro 0 (Sl ab_1 b_1 cb_1) b_1]) from (H.sel' [1, 0, 1] rfl rfl))) (wanted_yes rfl (by exact (congrArg some hb6))) ?_
   rintro _ σ10 ⟨_, ⟨rfl, rfl⟩, H, -⟩
   replace H : Hp S0 σ0 σ10 [Ch.ro 0 (Sl aa_0 a_0 ca_0) a_0, Ch.ro 0 (Sl ab_1 b_1 cb_1) b_1] := H
   refine st_g (v := (B (!r7))) (congrArg some hb6) (rv_not rfl) ?_
   refine st (v := (B (!r7))) (rv_pick_f (congrArg B hb6) rfl) ?_
   refine st (v := (B (!r7))) (rv_move rfl) ?_
   rcases Bool.eq_false_or_eq_true (!r7) with hb11 | hb11
   ·replace h := bif_t hb11 h
    refine st_skip (congrArg some hb11) ?_
    refine st_skip (congrArg some hb11) ?_
    refine st (v := (B true)) (rv_pick_t (congrArg B hb11) rfl) ?_
    refine st (v := (B true)) (rv_move rfl) ?_
    refine st_skip rfl ?_
    refine st_skip rfl ?_
    refine st (v := (B true)) (rv_pick_t rfl rfl) ?_
    refine w_end ?_
    obtain rfl := Option.some.inj h
    exact ⟨rfl, _, σ10, fr_join ⟨rfl, rfl, rfl, rfl, trivial⟩, rfl, H.sel' [0, 1] rfl rfl⟩
   ·replace h := bif_f hb11 h
    refine st_g (v := (I part_2)) (congrArg some hb11) (rv_move rfl) ?_
    refine st_g (v := (B (decide (part_2 < 0)))) (congrArg some hb11) (rv_lss (a := part_2) (b := 0) rfl rfl) ?_
    refine st (v := (B (decide (part_2 < 0)))) (rv_pick_f (congrArg B hb11) rfl) ?_
    refine st (v := (B (decide (part_2 < 0)))) (rv_move rfl) ?_
    rcases Bool.eq_false_or_eq_true (decide (part_2 < 0)) with hb12 | hb12
    ·replace h := bif_t hb12 h
     refine st_skip (congrArg some hb12) ?_
     refine st_skip (congrArg some hb12) ?_
     refine st (v := (B true)) (rv_pick_t (congrArg B hb12) rfl) ?_
     refine w_end ?_
     obtain rfl := Option.some.inj h
     exact ⟨rfl, _, σ10, fr_join ⟨rfl, rfl, rfl, rfl, trivial⟩, rfl, H.sel' [0, 1] rfl rfl⟩
    ·replace h := bif_f hb12 h
     refine st_g (v := (I part_2)) (congrArg some hb12) (rv_move rfl) ?_
     refine st_g (v := (B (decide (1000 < part_2)))) (congrArg some hb12) (rv_gtr (a := part_2) (b := 1000) rfl rfl) ?_
     refine st (v := (B (decide (1000 < part_2)))) (rv_pick_f (congrArg B hb12) rfl) ?_
     refine w_end ?_
     obtain rfl := Option.some.inj h
     exact ⟨rfl, _, σ10, fr_join ⟨rfl, rfl, rfl, rfl, trivial⟩, rfl, H.sel' [0, 1] rfl rfl⟩
 ·clear hj
  have h := h'
  clear h' H
  rintro e a w ⟨rfl, ρ, σ13, rfl, rfl, H⟩
  refine q_then ?_
  refine cd_cond o1 rfl (fun hb14 => ?_) (fun hb14 => ?_)
  ·replace h := bif_t hb14 h
   refine c_seq ?_
   refine rg ?_
   refine st (v := (.slice none 0 0)) (rv_assign rfl) ?_
   refine w_end ?_
   refine q_then ?_
   refine c_ret ?_
   refine q_then_r ?_
   replace H := H.nilOwn Int n0 n0
   obtain rfl := Option.some.inj h
   exact fin_ret (v := (.slice none 0 0)) (results_ok Try.results24 (res_tmp (v := (.slice none 0 0)) rfl res_nil) rfl) ⟨none, 0, rfl, rfl, rfl⟩ (H.sel' [0] rfl rfl)
  ·replace h := bif_f hb14 h
   refine c_skip ?_
   refine q_then ?_
   refine c_seq ?_
   refine rg ?_
   refine st_ex (ex_alloc (cs := (List.map I (List.replicate 4 0))) H hn0 ti57 rfl) wn ?_
   rintro _ σ16 ⟨b15, rfl, H, -⟩
   refine w_end ?_
   refine q_then ?_
   refine c_seq ?_
   refine c_seq ?_
   refine rg ?_
   refine st (v := (I 0)) (rv_move rfl) ?_
   refine w_end ?_
   refine q_then ?_
   obtain ⟨o17, hj, h'⟩ := bind_some h
   clear h
   refine c_cut (fun e a w => e = .normal ∧ ∃ (ρ : Nat → Value) (σ : St), a = fr 49 (updL ρ [(7, (pt b15 0))]) ∧ w = σ.w ∧ Hp S0 σ0 σ [Ch.bx n0 b15 0 (List.map I o17) [] []] ∧ o17.length = 4) ?_ ?_
   ·clear h'
    rename _ = some o17 => h
    refine c_blk ?_
    refine wp_loopM _ h (fun s18 a w => ∃ (ρ : Nat → Value) (σ : St), a = fr 49 (updL ρ [(0, (Sl aa_0 a_0 ca_0)), (1, (Sl ab_1 b_1 cb_1)), (2, (I part_2)), (7, (pt b15 0)), (25, (I s18.2))]) ∧ w = σ.w ∧ Hp S0 σ0 σ [Ch.bx n0 b15 0 (List.map I s18.1) [] [], Ch.ro 0 (Sl aa_0 a_0 ca_0) a_0, Ch.ro 0 (Sl ab_1 b_1 cb_1) b_1] ∧ s18.1.length = 4) ⟨_, σ16, fr_join ⟨rfl, rfl, rfl, rfl, rfl, trivial⟩, rfl, H.sel' [0, 1, 2] rfl rfl, rfl⟩ ?_
    clear h H
    rintro s18 a w o ⟨ρ, σ19, rfl, rfl, H, hl20⟩ h hres
    refine c_seq ?_
    refine rg ?_
    refine st (v := (B (decide (s18.2 < 4)))) (rv_lss (a := s18.2) (b := 4) rfl rfl) ?_
    refine w_end ?_
    refine q_then ?_
    refine c_seq ?_
    refine cd_cond (decide (s18.2 < 4)) rfl (fun hb21 => ?_) (fun hb21 => ?_)
    ·replace h := bif_t hb21 h
     refine c_skip ?_
     refine q_then ?_
     refine c_seq ?_
     refine c_blk ?_
     refine c_seq ?_
     refine rg ?_
     refine st (v := (I s18.2)) (rv_move rfl) ?_
     refine st (v := (I s18.2)) (rv_assign rfl) ?_
     refine w_end ?_
     refine q_then ?_
     obtain ⟨x22, hx23, h'⟩ := bind_some h
     clear h
     have h := h'; clear h'
     obtain ⟨b25, o26, hi24, -⟩ := (H.ro 1 rfl).ix hx23
     have hc27 := ((H.ro 1 rfl).at hx23 hi24).int
     obtain ⟨x28, hx29, h'⟩ := bind_some h
     clear h
     have h := h'; clear h'
     obtain ⟨b31, o32, hi30, -⟩ := (H.ro 2 rfl).ix hx29
     have hc33 := ((H.ro 2 rfl).at hx29 hi30).int
     obtain ⟨x34, hx35, h'⟩ := bind_some h
     clear h
     have h := h'; clear h'
     obtain ⟨b37, o38, hi36, -⟩ := (H.ro 1 rfl).ix hx35
     have hc39 := ((H.ro 1 rfl).at hx35 hi36).int
     obtain ⟨r40, hx41, h'⟩ := bind_some h
     clear h
     have h := h'; clear h'
     have hc42 := c_impl_divideDown hx41
     have Hs := H
     refine rg2 (σ := σ19) (Nm := Unit) 18 [16] [[false], [true]] [[(0, 0), (1, 1)], [(0, 0), (1, 1)], [(0, 0), (1, 1)], [(0, 0), (1, 1)], [(0, 0), (1, 1)], [(0, 0)], [(0, 0)], [(0, 0)], [(0, 0)], [(0, 0)], [(0, 0)], [(0, 0)], [(0, 0)], [(0, 0)], [(0, 0)], [(0, 0)], [(0, 1)], [(1, 1)]] 1 [fun _ => fun σm => Hp S0 σ0 σm [Ch.bx n0 b15 0 (List.map I s18.1) [] [], Ch.ro 0 (Sl aa_0 a_0 ca_0) a_0, Ch.ro 0 (Sl ab_1 b_1 cb_1) b_1] ∧ Md (cov []) σ19 σm, fun _ => fun σm => Hp S0 σ0 σm [Ch.bx n0 b15 0 (List.map I s18.1) [] [], Ch.ro 0 (Sl aa_0 a_0 ca_0) a_0, Ch.ro 0 (Sl ab_1 b_1 cb_1) b_1] ∧ Md (cov []) σ19 σm] [fun _ => (I s18.2), fun _ => (Sl aa_0 a_0 ca_0), fun _ => (I s18.2), fun _ => (pt b25 o26), fun _ => (I x22), fun _ => (Sl ab_1 b_1 cb_1), fun _ => (I s18.2), fun _ => (pt b31 o32), fun _ => (I x28), fun _ => (Sl aa_0 a_0 ca_0), fun _ => (I s18.2), fun _ => (pt b37 o38), fun _ => (I x34), fun _ => (I (w64 (x28 - x34))), fun _ => (I part_2), fun _ => (I (w64 ((w64 (x28 - x34)) * part_2))), fun _ => (I r40), fun _ => (I (w64 (x22 + r40)))] () (by kernel_rfl) (by kernel_rfl) ?_ ?_ ?_
     ·intro σm m0
      exact ⟨H.grow (m0.mono fun _ h => h.elim), m0⟩
     ·refine ac rfl (by
        intro k _nm ρ σm hJ hoff hdep
        have e8 := look_off (N := 49) (hoff 8 rfl) rfl
        exact dp_v (v := (I s18.2)) wn (rv_move e8) rfl hJ) ?_
      refine ac rfl (by
        intro k _nm ρ σm hJ hoff hdep
        have e0 := look_off (N := 49) (hoff 0 rfl) rfl
        exact dp_v (v := (Sl aa_0 a_0 ca_0)) wn (rv_move e0) rfl hJ) ?_
      refine ac rfl (by
        intro k _nm ρ σm hJ hoff hdep
        have e8 := look_off (N := 49) (hoff 8 rfl) rfl
        exact dp_v (v := (I s18.2)) wn (rv_move e8) rfl hJ) ?_
      refine ac rfl (by
        intro k _nm ρ σm hJ hoff hdep
        have e29 := hdep 1 rfl rfl 29 rfl
        have e30 := hdep 2 rfl rfl 30 rfl
        exact dp_v (v := (pt b25 o26)) wn (rv_ix Try.underlying24 ti3 e29 e30 hi24) rfl hJ) ?_
      refine all_cons (by
        refine ⟨?_, ?_⟩
        ·intro _nm ρ σm hJ hoff hdep
         have e31 := hdep 3 rfl rfl 31 rfl
         obtain ⟨H, m⟩ := id hJ
         replace hc27 := (Hs.ro 1 rfl).hmd hx23 hi24 (k := 0) (by decide) hc27 m
         exact dp_v (v := (I x22)) wn (rv_load1 Try.underlying3 rfl e31 hc27) rfl hJ
        refine ⟨?_, ?_⟩
        ·intro _nm ρ σm hJ hoff hdep
         have e31 := hdep 3 rfl rfl 31 rfl
         obtain ⟨H, m⟩ := id hJ
         replace hc27 := (Hs.ro 1 rfl).hmd hx23 hi24 (k := 0) (by decide) hc27 m
         exact dp_v (v := (I x22)) wn (rv_load1 Try.underlying3 rfl e31 hc27) rfl hJ
        trivial) ?_
      refine ac rfl (by
        intro k _nm ρ σm hJ hoff hdep
        have e1 := look_off (N := 49) (hoff 1 rfl) rfl
        exact dp_v (v := (Sl ab_1 b_1 cb_1)) wn (rv_move e1) rfl hJ) ?_
      refine ac rfl (by
        intro k _nm ρ σm hJ hoff hdep
        have e8 := look_off (N := 49) (hoff 8 rfl) rfl
        exact dp_v (v := (I s18.2)) wn (rv_move e8) rfl hJ) ?_
      refine ac rfl (by
        intro k _nm ρ σm hJ hoff hdep
        have e33 := hdep 5 rfl rfl 33 rfl
        have e34 := hdep 6 rfl rfl 34 rfl
        exact dp_v (v := (pt b31 o32)) wn (rv_ix Try.underlying24 ti3 e33 e34 hi30) rfl hJ) ?_
      refine all_cons (by
        refine ⟨?_, ?_⟩
        ·intro _nm ρ σm hJ hoff hdep
         have e35 := hdep 7 rfl rfl 35 rfl
         obtain ⟨H, m⟩ := id hJ
         replace hc33 := (Hs.ro 2 rfl).hmd hx29 hi30 (k := 0) (by decide) hc33 m
         exact dp_v (v := (I x28)) wn (rv_load1 Try.underlying3 rfl e35 hc33) rfl hJ
        trivial) ?_
      refine ac rfl (by
        intro k _nm ρ σm hJ hoff hdep
        have e0 := look_off (N := 49) (hoff 0 rfl) rfl
        exact dp_v (v := (Sl aa_0 a_0 ca_0)) wn (rv_move e0) rfl hJ) ?_
      refine ac rfl (by
        intro k _nm ρ σm hJ hoff hdep
        have e8 := look_off (N := 49) (hoff 8 rfl) rfl
        exact dp_v (v := (I s18.2)) wn (rv_move e8) rfl hJ) ?_
      refine ac rfl (by
        intro k _nm ρ σm hJ hoff hdep
        have e37 := hdep 9 rfl rfl 37 rfl
        have e38 := hdep 10 rfl rfl 38 rfl
        exact dp_v (v := (pt b37 o38)) wn (rv_ix Try.underlying24 ti3 e37 e38 hi36) rfl hJ) ?_
      refine all_cons (by
        refine ⟨?_, ?_⟩
        ·intro _nm ρ σm hJ hoff hdep
         have e39 := hdep 11 rfl rfl 39 rfl
         obtain ⟨H, m⟩ := id hJ
         replace hc39 := (Hs.ro 1 rfl).hmd hx35 hi36 (k := 0) (by decide) hc39 m
         exact dp_v (v := (I x34)) wn (rv_load1 Try.underlying3 rfl e39 hc39) rfl hJ
        trivial) ?_
      refine ac rfl (by
        intro k _nm ρ σm hJ hoff hdep
        have e36 := hdep 8 rfl rfl 36 rfl
        have e40 := hdep 12 rfl rfl 40 rfl
        exact dp_v (v := (I (w64 (x28 - x34)))) wn (rv_sub (a := x28) (b := x34) e36 e40) rfl hJ) ?_
      refine ac rfl (by
        intro k _nm ρ σm hJ hoff hdep
        have e2 := look_off (N := 49) (hoff 2 rfl) rfl
        exact dp_v (v := (I part_2)) wn (rv_move e2) rfl hJ) ?_
      refine ac rfl (by
        intro k _nm ρ σm hJ hoff hdep
        have e41 := hdep 13 rfl rfl 41 rfl
        have e42 := hdep 14 rfl rfl 42 rfl
        exact dp_v (v := (I (w64 ((w64 (x28 - x34)) * part_2)))) wn (rv_mul (a := (w64 (x28 - x34))) (b := part_2) e41 e42) rfl hJ) ?_
      refine all_cons (by
        refine ⟨?_, ?_⟩
        ·intro _nm ρ σm hJ hoff hdep
         have e43 : look 49 ρ 43 = (I (w64 ((w64 (x28 - x34)) * part_2))) := hdep 15 rfl rfl 43 rfl
         obtain ⟨H, m⟩ := id hJ
         refine dp_cx wn (cx_call hc42 (ent_f hc42.fn (by show [look 49 ρ 43, (I 1000)] = _; rw [e43])) hn0 (show Hp S0 σ0 _ ([] ++ [Ch.bx n0 b15 0 (List.map I s18.1) [] [], Ch.ro 0 (Sl aa_0 a_0 ca_0) a_0, Ch.ro 0 (Sl ab_1 b_1 cb_1) b_1]) from (H.sel' [0, 1, 2] rfl rfl))) ?_
         rintro _ σq ⟨_, ⟨rfl, rfl⟩, H2, m2⟩
         exact ⟨_, (), rfl, rfl, ⟨H2.sel' [0, 1, 2] rfl rfl, m.comp0 m2⟩, stab [0, 1, 2, 3, 4, 5, 6, 7, 8, 9, 10, 11, 12, 13, 14, 15] (by kernel_rfl) ⟨rfl, rfl, rfl, rfl, rfl, rfl, rfl, rfl, rfl, rfl, rfl, rfl, rfl, rfl, rfl, rfl, trivial⟩⟩
        trivial) ?_
      refine ac rfl (by
        intro k _nm ρ σm hJ hoff hdep
        have e32 := hdep 4 rfl rfl 32 rfl
        have e44 := hdep 16 rfl rfl 44 rfl
        exact dp_v (v := (I (w64 (x22 + r40)))) wn (rv_add (a := x22) (b := r40) e32 e44) rfl hJ) ?_
      exact all_nil
     ·intro _nm ρ σ43 hJ hoff hrel
      have e0 := look_off (N := 49) (hoff 0 rfl) rfl
      have e1 := look_off (N := 49) (hoff 1 rfl) rfl
      have e2 := look_off (N := 49) (hoff 2 rfl) rfl
      have e7 := look_off (N := 49) (hoff 7 rfl) rfl
      have e25 := look_off (N := 49) (hoff 25 rfl) rfl
      have e28 := hrel 0 rfl 28 rfl
      have e45 := hrel 17 rfl 45 rfl
      obtain ⟨H, -⟩ := (show Hp S0 σ0 σ43 [Ch.bx n0 b15 0 (List.map I s18.1) [] [], Ch.ro 0 (Sl aa_0 a_0 ca_0) a_0, Ch.ro 0 (Sl ab_1 b_1 cb_1) b_1] ∧ Md (cov []) σ19 σ43 from hJ)
      clear hJ Hs
      rw [fr_lookL (L := [(0, (Sl aa_0 a_0 ca_0)), (1, (Sl ab_1 b_1 cb_1)), (2, (I part_2)), (7, (pt b15 0)), (25, (I s18.2)), (28, (I s18.2)), (45, (I (w64 (x22 + r40))))]) ⟨e0, e1, e2, e7, e25, e28, e45, trivial⟩]
      clear hoff hrel e0 e1 e2 e7 e25 e28 e45
      obtain ⟨x44, hx45, h'⟩ := bind_some h
      clear h
      have h := h'; clear h'
      have hl46 := gidx_lt hx45 hl20
      refine st (v := (pt b15 (0 + s18.2.toNat * 1))) (rv_indexAddr_array Try.underlying57 ti3 rfl rfl hl46.1 hl46.2) ?_
      have hl47 := gidx_lt hx45 hl20
      refine st_exS (ex_store_box (k := s18.2.toNat * 1) (vs := [(I (w64 (x22 + r40)))]) (cs' := (List.map I (s18.1.set s18.2.toNat (w64 (x22 + r40))))) H (i := 0) rfl ti3 rfl rfl rfl rfl rfl (by rw [List.length_map, hl20]; simp; omega) (by simp [plain]) (arr_set' _ _ _)) wn ?_
      rintro σ48 ⟨H, -⟩
      refine w_end ?_
      refine q_blk ?_
      refine q_then ?_
      refine rg ?_
      refine st (v := (I (w64 (s18.2 + 1)))) (rv_add (a := s18.2) (b := 1) rfl rfl) ?_
      refine st (v := (I (w64 (s18.2 + 1)))) (rv_move rfl) ?_
      refine w_end ?_
      refine q_then ?_
      obtain rfl := Option.some.inj h
      exact ⟨_, rfl, _, σ48, fr_join ⟨rfl, rfl, rfl, rfl, rfl, trivial⟩, rfl, H.sel' [0, 1, 2] rfl rfl, (set_len hl20)⟩
    ·replace h := bif_f hb21 h
     refine c_exit ?_
     refine q_then_x ?_
     refine q_then_x ?_
     refine q_blk_hit ?_
     obtain rfl := Option.some.inj h
     obtain rfl := hres _ rfl
     exact ⟨rfl, _, σ19, fr_join ⟨rfl, trivial⟩, rfl, H.sel' [0] rfl rfl, hl20⟩
   ·clear hj
    have h := h'
    clear h' H
    rintro e a w ⟨rfl, ρ, σ49, rfl, rfl, H, hl50⟩
    refine q_then ?_
    refine c_seq ?_
    refine rg ?_
    replace H := Hp.arr (el := n0) H (i := 0) rfl hl50
    refine st (v := (Sl (some ⟨b15, 0, none⟩) o17 4)) (rv_slice_arrL Try.underlying57 ti3 (by decide) rfl hl50) ?_
    refine st (v := (Sl (some ⟨b15, 0, none⟩) o17 4)) (rv_assign rfl) ?_
    refine w_end ?_
    refine q_then ?_
    refine c_ret ?_
    obtain rfl := Option.some.inj h
    exact fin_ret (v := (Sl (some ⟨b15, 0, none⟩) o17 4)) (results_ok Try.results24 (res_tmp (v := (Sl (some ⟨b15, 0, none⟩) o17 4)) rfl res_nil) rfl) ⟨(some ⟨b15, 0, none⟩), 4, rfl, rfl, hl50.symm⟩ (H.sel' [0] rfl rfl)

theorem c_laws_FnExactMoveTo {aA_0 : List Int} {aB_1 : List Int} {aPart_2 : Int} {aaA_0 : Option Addr} {caA_0 : Nat} {aaB_1 : Option Addr} {caB_1 : Nat} {r : Bool} (h : M.laws_FnExactMoveTo aA_0 aB_1 aPart_2 = some r) :
    Cal2 Try.prog 4 [(Sl aaA_0 aA_0 caA_0), (Sl aaB_1 aB_1 caB_1), (I aPart_2)] [Ch.ro 0 (Sl aaA_0 aA_0 caA_0) aA_0, Ch.ro 0 (Sl aaB_1 aB_1 caB_1) aB_1] (fun n0 v L => v = (B r) ∧ L = []) := by
 refine cal2 (n := 92) Try.func4 rfl rfl rfl rfl ?_
 intro S0 σ0 n0 hn0 H
 unfold M.laws_FnExactMoveTo at h
 refine c_seq ?_
 refine rg ?_
 refine st (v := (B false)) (rv_assign rfl) ?_
 refine w_end ?_
 refine q_then ?_
 refine c_seq ?_
 refine c_seq ?_
 refine rg ?_
 refine st (v := (Sl aaA_0 aA_0 caA_0)) (rv_move rfl) ?_
 refine st (v := (I (aA_0.length : Int))) (rv_len Try.underlying24 rfl) ?_
 refine st (v := (B (decide (1048576 < (aA_0.length : Int))))) (rv_gtr (a := (aA_0.length : Int)) (b := 1048576) rfl rfl) ?_
 refine w_end ?_
 refine q_then ?_
 refine cd_cond (decide (1048576 < (aA_0.length : Int))) rfl (fun hb1 => ?_) (fun hb1 => ?_)
 ·replace h := bif_t hb1 h
  refine c_seq ?_
  refine rg ?_
  refine st (v := (B true)) (rv_assign rfl) ?_
  refine w_end ?_
  refine q_then ?_
  refine c_ret ?_
  refine q_then_r ?_
  obtain rfl := Option.some.inj h
  exact fin_ret (v := (B true)) (results_ok Try.results4 (res_tmp (v := (B true)) rfl res_nil) rfl) ⟨rfl, rfl⟩ (H.sel' [] rfl rfl)
 ·replace h := bif_f hb1 h
  refine c_skip ?_
  refine q_then ?_
  refine c_seq ?_
  refine c_seq ?_
  refine rg ?_
  refine st (v := (Sl aaB_1 aB_1 caB_1)) (rv_move rfl) ?_
  refine st (v := (I (aB_1.length : Int))) (rv_len Try.underlying24 rfl) ?_
  refine st (v := (B (decide (1048576 < (aB_1.length : Int))))) (rv_gtr (a := (aB_1.length : Int)) (b := 1048576) rfl rfl) ?_
  refine w_end ?_
  refine q_then ?_
  refine cd_cond (decide (1048576 < (aB_1.length : Int))) rfl (fun hb2 => ?_) (fun hb2 => ?_)
  ·replace h := bif_t hb2 h
   refine c_seq ?_
   refine rg ?_
   refine st (v := (B true)) (rv_assign rfl) ?_
   refine w_end ?_
   refine q_then ?_
   refine c_ret ?_
   refine q_then_r ?_
   obtain rfl := Option.some.inj h
   exact fin_ret (v := (B true)) (results_ok Try.results4 (res_tmp (v := (B true)) rfl res_nil) rfl) ⟨rfl, rfl⟩ (H.sel' [] rfl rfl)
  ·replace h := bif_f hb2 h
   refine c_skip ?_
   refine q_then ?_
   refine c_seq ?_
   refine rg ?_
   refine st (v := (Sl aaA_0 aA_0 caA_0)) (rv_move rfl) ?_
   obtain ⟨r3, hx4, h'⟩ := bind_some h
   clear h
   have h := h'; clear h'
   have hc5 := c_laws_toIntS (aa_0 := aaA_0) (ca_0 := caA_0) hx4
   refine st_call (cx_call hc5 (ent_f hc5.fn rfl) hn0 (show Hp S0 σ0 _ ([Ch.ro 0 (Sl aaA_0 aA_0 caA_0) aA_0] ++ [Ch.ro 0 (Sl aaA_0 aA_0 caA_0) aA_0, Ch.ro 0 (Sl aaB_1 aB_1 caB_1) aB_1]) from (H.sel' [0, 0, 1] rfl rfl))) wn ?_
   rintro _ σ9 ⟨_, ⟨a6, c7, rfl, rfl, ht8⟩, H, -⟩
   replace H : Hp S0 σ0 σ9 [Ch.own n0 n0 (Sl a6 r3 c7) r3, Ch.ro 0 (Sl aaA_0 aA_0 caA_0) aA_0, Ch.ro 0 (Sl aaB_1 aB_1 caB_1) aB_1] := H
   refine st (v := (Sl aaB_1 aB_1 caB_1)) (rv_move rfl) ?_
   obtain ⟨r10, hx11, h'⟩ := bind_some h
   clear h
   have h := h'; clear h'
   have hc12 := c_laws_toIntS (aa_0 := aaB_1) (ca_0 := caB_1) hx11
   refine st_call (cx_call hc12 (ent_f hc12.fn rfl) hn0 (show Hp S0 σ0 _ ([Ch.ro 0 (Sl aaB_1 aB_1 caB_1) aB_1] ++ [Ch.own n0 n0 (Sl a6 r3 c7) r3, Ch.ro 0 (Sl aaA_0 aA_0 caA_0) aA_0, Ch.ro 0 (Sl aaB_1 aB_1 caB_1) aB_1]) from (H.sel' [2, 0, 1, 2] rfl rfl))) wn ?_
   rintro _ σ16 ⟨_, ⟨a13, c14, rfl, rfl, ht15⟩, H, -⟩
   replace H : Hp S0 σ0 σ16 [Ch.own n0 n0 (Sl a13 r10 c14) r10, Ch.own n0 n0 (Sl a6 r3 c7) r3, Ch.ro 0 (Sl aaA_0 aA_0 caA_0) aA_0, Ch.ro 0 (Sl aaB_1 aB_1 caB_1) aB_1] := H
   refine st (v := (I aPart_2)) (rv_move rfl) ?_
   obtain ⟨σ17, hw18, H, -⟩ := H.pub 1 rfl (Nat.le_refl _)
   rw [← hw18]; clear hw18
   obtain ⟨σ19, hw20, H, -⟩ := H.pub 1 rfl (Nat.le_refl _)
   rw [← hw20]; clear hw20
   replace H := H.roLow 1 0 rfl (Nat.zero_le _)
   replace H := H.roLow 1 0 rfl (Nat.zero_le _)
   obtain ⟨r21, hx22, h'⟩ := bind_some h
   clear h
   have h := h'; clear h'
   have hc23 := c_spec_MoveTo (aa_0 := a6) (ca_0 := c7) (ab_1 := a13) (cb_1 := c14) hx22
   refine st_call (cx_call hc23 (ent_f hc23.fn rfl) hn0 (show Hp S0 σ0 _ ([Ch.ro 0 (Sl a6 r3 c7) r3, Ch.ro 0 (Sl a13 r10 c14) r10] ++ [Ch.ro 0 (Sl a13 r10 c14) r10, Ch.ro 0 (Sl a6 r3 c7) r3, Ch.ro n0 (Sl a13 r10 c14) r10, Ch.ro n0 (Sl a6 r3 c7) r3, Ch.ro 0 (Sl aaA_0 aA_0 caA_0) aA_0, Ch.ro 0 (Sl aaB_1 aB_1 caB_1) aB_1]) from (H.sel' [1, 0, 0, 1, 2, 3, 4, 5] rfl rfl))) wn ?_
   rintro _ σ26 ⟨_, ⟨a24, c25, rfl, rfl⟩, H, -⟩
   replace H : Hp S0 σ0 σ26 [Ch.own n0 n0 (Sl a24 r21 c25) r21, Ch.ro 0 (Sl a13 r10 c14) r10, Ch.ro 0 (Sl a6 r3 c7) r3, Ch.ro n0 (Sl a13 r10 c14) r10, Ch.ro n0 (Sl a6 r3 c7) r3, Ch.ro 0 (Sl aaA_0 aA_0 caA_0) aA_0, Ch.ro 0 (Sl aaB_1 aB_1 caB_1) aB_1] := H
   refine st (v := (Sl a24 r21 c25)) (rv_assign rfl) ?_
   refine w_end ?_
   refine q_then ?_
   refine c_seq ?_
   refine rg ?_
   refine st (v := (Sl aaA_0 aA_0 caA_0)) (rv_move rfl) ?_
   obtain ⟨r27, hx28, h'⟩ := bind_some h
   clear h
   have h := h'; clear h'
   have hc29 := c_laws_toIntS (aa_0 := aaA_0) (ca_0 := caA_0) hx28
   refine st_call (cx_call hc29 (ent_f hc29.fn rfl) hn0 (show Hp S0 σ0 _ ([Ch.ro 0 (Sl aaA_0 aA_0 caA_0) aA_0] ++ [Ch.own n0 n0 (Sl a24 r21 c25) r21, Ch.ro 0 (Sl a13 r10 c14) r10, Ch.ro 0 (Sl a6 r3 c7) r3, Ch.ro n0 (Sl a13 r10 c14) r10, Ch.ro n0 (Sl a6 r3 c7) r3, Ch.ro 0 (Sl aaA_0 aA_0 caA_0) aA_0, Ch.ro 0 (Sl aaB_1 aB_1 caB_1) aB_1]) from (H.sel' [5, 0, 1, 2, 3, 4, 5, 6] rfl rfl))) wn ?_
   rintro _ σ33 ⟨_, ⟨a30, c31, rfl, rfl, ht32⟩, H, -⟩
   replace H : Hp S0 σ0 σ33 [Ch.own n0 n0 (Sl a30 r27 c31) r27, Ch.own n0 n0 (Sl a24 r21 c25) r21, Ch.ro 0 (Sl a13 r10 c14) r10, Ch.ro 0 (Sl a6 r3 c7) r3, Ch.ro n0 (Sl a13 r10 c14) r10, Ch.ro n0 (Sl a6 r3 c7) r3, Ch.ro 0 (Sl aaA_0 aA_0 caA_0) aA_0, Ch.ro 0 (Sl aaB_1 aB_1 caB_1) aB_1] := H
   replace H : Hp S0 σ0 σ33 [Ch.own n0 n0 (Sl a30 r27 c31) r27, Ch.own n0 n0 (Sl a24 r21 c25) r21, Ch.ro 0 (Sl aaA_0 aA_0 caA_0) aA_0, Ch.ro 0 (Sl aaB_1 aB_1 caB_1) aB_1] := H.sel' [0, 1, 6, 7] rfl rfl
   refine st (v := (Sl a30 r27 c31)) (rv_assign rfl) ?_
   refine w_end ?_
   refine q_then ?_
   refine c_seq ?_
   refine rg ?_
   refine st (v := (Sl aaB_1 aB_1 caB_1)) (rv_move rfl) ?_
   obtain ⟨r34, hx35, h'⟩ := bind_some h
   clear h
   have h := h'; clear h'
   have hc36 := c_laws_toIntS (aa_0 := aaB_1) (ca_0 := caB_1) hx35
   refine st_call (cx_call hc36 (ent_f hc36.fn rfl) hn0 (show Hp S0 σ0 _ ([Ch.ro 0 (Sl aaB_1 aB_1 caB_1) aB_1] ++ [Ch.own n0 n0 (Sl a30 r27 c31) r27, Ch.own n0 n0 (Sl a24 r21 c25) r21, Ch.ro 0 (Sl aaA_0 aA_0 caA_0) aA_0, Ch.ro 0 (Sl aaB_1 aB_1 caB_1) aB_1]) from (H.sel' [3, 0, 1, 2, 3] rfl rfl))) wn ?_
   rintro _ σ40 ⟨_, ⟨a37, c38, rfl, rfl, ht39⟩, H, -⟩
   replace H : Hp S0 σ0 σ40 [Ch.own n0 n0 (Sl a37 r34 c38) r34, Ch.own n0 n0 (Sl a30 r27 c31) r27, Ch.own n0 n0 (Sl a24 r21 c25) r21, Ch.ro 0 (Sl aaA_0 aA_0 caA_0) aA_0, Ch.ro 0 (Sl aaB_1 aB_1 caB_1) aB_1] := H
   refine st (v := (Sl a37 r34 c38)) (rv_assign rfl) ?_
   refine w_end ?_
   refine q_then ?_
   refine c_seq ?_
   refine rg ?_
   refine st (v := (Sl a30 r27 c31)) (rv_move rfl) ?_
   refine st (v := (Sl a37 r34 c38)) (rv_move rfl) ?_
   refine st (v := (I aPart_2)) (rv_move rfl) ?_
   obtain ⟨r41, hx42, h'⟩ := bind_some h
   clear h
   have h := h'; clear h'
   have hc43 := c_impl_MoveTo (aa_0 := a30) (ca_0 := c31) (ab_1 := a37) (cb_1 := c38) hx42
   have hle := Nat.le_trans hn0 H.size
   refine st_call (cx_lend (Loan.lend (Loan.lend Loan.nil)) hc43 (ent_f hc43.fn rfl) (show Hp S0 σ0 _ ([Ch.own n0 n0 (Sl a30 r27 c31) r27, Ch.own n0 n0 (Sl a37 r34 c38) r34] ++ ([] ++ [Ch.own n0 n0 (Sl a24 r21 c25) r21, Ch.ro 0 (Sl aaA_0 aA_0 caA_0) aA_0, Ch.ro 0 (Sl aaB_1 aB_1 caB_1) aB_1])) from (H.sel' [1, 0, 2, 3, 4] rfl rfl)) (by rintro _ _ _ ⟨_, _, rfl, rfl, _⟩; exact ⟨Ab.ownSc, trivial⟩)) wn ?_
   rintro _ σ47 ⟨_, ⟨a44, c45, rfl, rfl, ht46⟩, H, -, -⟩
   replace H : Hp S0 σ0 σ47 [Ch.own σ40.size σ40.size (Sl a44 r41 c45) r41, Ch.own n0 n0 (Sl a30 r27 c31) r27, Ch.own n0 n0 (Sl a37 r34 c38) r34, Ch.own n0 n0 (Sl a24 r21 c25) r21, Ch.ro 0 (Sl aaA_0 aA_0 caA_0) aA_0, Ch.ro 0 (Sl aaB_1 aB_1 caB_1) aB_1] := H
   replace H := H.ownLow 0 n0 n0 rfl hle hle
   clear hle
   replace H : Hp S0 σ0 σ47 [Ch.own n0 n0 (Sl a44 r41 c45) r41, Ch.own n0 n0 (Sl a30 r27 c31) r27, Ch.own n0 n0 (Sl a37 r34 c38) r34, Ch.own n0 n0 (Sl a24 r21 c25) r21, Ch.ro 0 (Sl aaA_0 aA_0 caA_0) aA_0, Ch.ro 0 (Sl aaB_1 aB_1 caB_1) aB_1] := H
   refine st (v := (Sl a44 r41 c45)) (rv_assign rfl) ?_
   refine w_end ?_
   refine q_then ?_
   refine c_seq ?_
   refine c_seq ?_
   refine rg ?_
   refine st (v := (Sl a44 r41 c45)) (rv_move rfl) ?_
   refine st (v := (Sl a24 r21 c25)) (rv_move rfl) ?_
   obtain ⟨r48, hx49, h'⟩ := bind_some h
   clear h
   have h := h'; clear h'
   have hc50 := c_laws_eqIntS (aa_0 := a44) (ca_0 := c45) (ab_1 := a24) (cb_1 := c25) hx49
   have hle := Nat.le_trans hn0 H.size
   refine st_call (cx_lend (Loan.lend (Loan.lend Loan.nil)) hc50 (ent_f hc50.fn rfl) (show Hp S0 σ0 _ ([Ch.own n0 n0 (Sl a44 r41 c45) r41, Ch.own n0 n0 (Sl a24 r21 c25) r21] ++ ([] ++ [Ch.own n0 n0 (Sl a30 r27 c31) r27, Ch.own n0 n0 (Sl a37 r34 c38) r34, Ch.ro 0 (Sl aaA_0 aA_0 caA_0) aA_0, Ch.ro 0 (Sl aaB_1 aB_1 caB_1) aB_1])) from (H.sel' [0, 3, 1, 2, 4, 5] rfl rfl)) (by rintro _ _ _ ⟨rfl, rfl⟩; exact trivial)) wn ?_
   rintro _ σ51 ⟨_, ⟨rfl, rfl⟩, H, -, -⟩
   replace H : Hp S0 σ0 σ51 [Ch.own n0 n0 (Sl a44 r41 c45) r41, Ch.own n0 n0 (Sl a24 r21 c25) r21, Ch.own n0 n0 (Sl a30 r27 c31) r27, Ch.own n0 n0 (Sl a37 r34 c38) r34, Ch.ro 0 (Sl aaA_0 aA_0 caA_0) aA_0, Ch.ro 0 (Sl aaB_1 aB_1 caB_1) aB_1] := H
   clear hle
   replace H : Hp S0 σ0 σ51 [Ch.own n0 n0 (Sl a44 r41 c45) r41, Ch.own n0 n0 (Sl a24 r21 c25) r21, Ch.own n0 n0 (Sl a30 r27 c31) r27, Ch.own n0 n0 (Sl a37 r34 c38) r34, Ch.ro 0 (Sl aaA_0 aA_0 caA_0) aA_0, Ch.ro 0 (Sl aaB_1 aB_1 caB_1) aB_1] := H
   refine st (v := (B (!r48))) (rv_not rfl) ?_
   refine w_end ?_
   refine q_then ?_
   refine cd_cond (!r48) rfl (fun hb52 => ?_) (fun hb52 => ?_)
   ·replace h := bif_t hb52 h
    refine c_seq ?_
    refine rg ?_
    refine st (v := (B false)) (rv_assign rfl) ?_
    refine w_end ?_
    refine q_then ?_
    refine c_ret ?_
    refine q_then_r ?_
    obtain rfl := Option.some.inj h
    exact fin_ret (v := (B false)) (results_ok Try.results4 (res_tmp (v := (B false)) rfl res_nil) rfl) ⟨rfl, rfl⟩ (H.sel' [] rfl rfl)
   ·replace h := bif_f hb52 h
    refine c_skip ?_
    refine q_then ?_
    refine c_seq ?_
    refine c_seq ?_
    refine rg ?_
    refine st (v := (Sl a30 r27 c31)) (rv_move rfl) ?_
    refine st (v := (Sl aaA_0 aA_0 caA_0)) (rv_move rfl) ?_
    obtain ⟨r53, hx54, h'⟩ := bind_some h
    clear h
    have h := h'; clear h'
    have hc55 := c_laws_toIntS (aa_0 := aaA_0) (ca_0 := caA_0) hx54
    refine st_call (cx_call hc55 (ent_f hc55.fn rfl) hn0 (show Hp S0 σ0 _ ([Ch.ro 0 (Sl aaA_0 aA_0 caA_0) aA_0] ++ [Ch.own n0 n0 (Sl a44 r41 c45) r41, Ch.own n0 n0 (Sl a24 r21 c25) r21, Ch.own n0 n0 (Sl a30 r27 c31) r27, Ch.own n0 n0 (Sl a37 r34 c38) r34, Ch.ro 0 (Sl aaA_0 aA_0 caA_0) aA_0, Ch.ro 0 (Sl aaB_1 aB_1 caB_1) aB_1]) from (H.sel' [4, 0, 1, 2, 3, 4, 5] rfl rfl))) wn ?_
    rintro _ σ59 ⟨_, ⟨a56, c57, rfl, rfl, ht58⟩, H, -⟩
    replace H : Hp S0 σ0 σ59 [Ch.own n0 n0 (Sl a56 r53 c57) r53, Ch.own n0 n0 (Sl a44 r41 c45) r41, Ch.own n0 n0 (Sl a24 r21 c25) r21, Ch.own n0 n0 (Sl a30 r27 c31) r27, Ch.own n0 n0 (Sl a37 r34 c38) r34, Ch.ro 0 (Sl aaA_0 aA_0 caA_0) aA_0, Ch.ro 0 (Sl aaB_1 aB_1 caB_1) aB_1] := H
    obtain ⟨σ60, hw61, H, -⟩ := H.pub 0 rfl (Nat.le_refl _)
    rw [← hw61]; clear hw61
    replace H := H.roLow 0 0 rfl (Nat.zero_le _)
    obtain ⟨r62, hx63, h'⟩ := bind_some h
    clear h
    have h := h'; clear h'
    have hc64 := c_laws_eqIntS (aa_0 := a30) (ca_0 := c31) (ab_1 := a56) (cb_1 := c57) hx63
    have hle := Nat.le_trans hn0 H.size
    refine st_call (cx_lend (Loan.lend (Loan.same Loan.nil)) hc64 (ent_f hc64.fn rfl) (show Hp S0 σ0 _ ([Ch.own n0 n0 (Sl a30 r27 c31) r27] ++ ([Ch.ro 0 (Sl a56 r53 c57) r53] ++ [Ch.ro 0 (Sl a56 r53 c57) r53, Ch.ro n0 (Sl a56 r53 c57) r53, Ch.own n0 n0 (Sl a44 r41 c45) r41, Ch.own n0 n0 (Sl a24 r21 c25) r21, Ch.own n0 n0 (Sl a37 r34 c38) r34, Ch.ro 0 (Sl aaA_0 aA_0 caA_0) aA_0, Ch.ro 0 (Sl aaB_1 aB_1 caB_1) aB_1])) from (H.sel' [4, 0, 0, 1, 2, 3, 5, 6, 7] rfl rfl)) (by rintro _ _ _ ⟨rfl, rfl⟩; exact trivial)) wn ?_
    rintro _ σ65 ⟨_, ⟨rfl, rfl⟩, H, -, -⟩
    replace H : Hp S0 σ0 σ65 [Ch.own n0 n0 (Sl a30 r27 c31) r27, Ch.ro 0 (Sl a56 r53 c57) r53, Ch.ro n0 (Sl a56 r53 c57) r53, Ch.own n0 n0 (Sl a44 r41 c45) r41, Ch.own n0 n0 (Sl a24 r21 c25) r21, Ch.own n0 n0 (Sl a37 r34 c38) r34, Ch.ro 0 (Sl aaA_0 aA_0 caA_0) aA_0, Ch.ro 0 (Sl aaB_1 aB_1 caB_1) aB_1] := H
    clear hle
    replace H : Hp S0 σ0 σ65 [Ch.own n0 n0 (Sl a30 r27 c31) r27, Ch.ro 0 (Sl a56 r53 c57) r53, Ch.ro n0 (Sl a56 r53 c57) r53, Ch.own n0 n0 (Sl a44 r41 c45) r41, Ch.own n0 n0 (Sl a24 r21 c25) r21, Ch.own n0 n0 (Sl a37 r34 c38) r34, Ch.ro 0 (Sl aaA_0 aA_0 caA_0) aA_0, Ch.ro 0 (Sl aaB_1 aB_1 caB_1) aB_1] := H
    replace H : Hp S0 σ0 σ65 [Ch.own n0 n0 (Sl a30 r27 c31) r27, Ch.own n0 n0 (Sl a44 r41 c45) r41, Ch.own n0 n0 (Sl a24 r21 c25) r21, Ch.own n0 n0 (Sl a37 r34 c38) r34, Ch.ro 0 (Sl aaA_0 aA_0 caA_0) aA_0, Ch.ro 0 (Sl aaB_1 aB_1 caB_1) aB_1] := H.sel' [0, 3, 4, 5, 6, 7] rfl rfl
    refine st (v := (B (!r62))) (rv_not rfl) ?_
    refine w_end ?_
    refine q_then ?_
    refine cd_cond (!r62) rfl (fun hb66 => ?_) (fun hb66 => ?_)
    ·replace h := bif_t hb66 h
     refine c_seq ?_
     refine rg ?_
     refine st (v := (B false)) (rv_assign rfl) ?_
     refine w_end ?_
     refine q_then ?_
     refine c_ret ?_
     refine q_then_r ?_
     obtain rfl := Option.some.inj h
     exact fin_ret (v := (B false)) (results_ok Try.results4 (res_tmp (v := (B false)) rfl res_nil) rfl) ⟨rfl, rfl⟩ (H.sel' [] rfl rfl)
    ·replace h := bif_f hb66 h
     refine c_skip ?_
     refine q_then ?_
     refine c_seq ?_
     refine c_seq ?_
     refine rg ?_
     refine st (v := (Sl a37 r34 c38)) (rv_move rfl) ?_
     refine st (v := (Sl aaB_1 aB_1 caB_1)) (rv_move rfl) ?_
     obtain ⟨r67, hx68, h'⟩ := bind_some h
     clear h
     have h := h'; clear h'
     have hc69 := c_laws_toIntS (aa_0 := aaB_1) (ca_0 := caB_1) hx68
     refine st_call (cx_call hc69 (ent_f hc69.fn rfl) hn0 (show Hp S0 σ0 _ ([Ch.ro 0 (Sl aaB_1 aB_1 caB_1) aB_1] ++ [Ch.own n0 n0 (Sl a30 r27 c31) r27, Ch.own n0 n0 (Sl a44 r41 c45) r41, Ch.own n0 n0 (Sl a24 r21 c25) r21, Ch.own n0 n0 (Sl a37 r34 c38) r34, Ch.ro 0 (Sl aaA_0 aA_0 caA_0) aA_0, Ch.ro 0 (Sl aaB_1 aB_1 caB_1) aB_1]) from (H.sel' [5, 0, 1, 2, 3, 4, 5] rfl rfl))) wn ?_
     rintro _ σ73 ⟨_, ⟨a70, c71, rfl, rfl, ht72⟩, H, -⟩
     replace H : Hp S0 σ0 σ73 [Ch.own n0 n0 (Sl a70 r67 c71) r67, Ch.own n0 n0 (Sl a30 r27 c31) r27, Ch.own n0 n0 (Sl a44 r41 c45) r41, Ch.own n0 n0 (Sl a24 r21 c25) r21, Ch.own n0 n0 (Sl a37 r34 c38) r34, Ch.ro 0 (Sl aaA_0 aA_0 caA_0) aA_0, Ch.ro 0 (Sl aaB_1 aB_1 caB_1) aB_1] := H
     obtain ⟨σ74, hw75, H, -⟩ := H.pub 0 rfl (Nat.le_refl _)
     rw [← hw75]; clear hw75
     replace H := H.roLow 0 0 rfl (Nat.zero_le _)
     obtain ⟨r76, hx77, h'⟩ := bind_some h
     clear h
     have h := h'; clear h'
     have hc78 := c_laws_eqIntS (aa_0 := a37) (ca_0 := c38) (ab_1 := a70) (cb_1 := c71) hx77
     have hle := Nat.le_trans hn0 H.size
     refine st_call (cx_lend (Loan.lend (Loan.same Loan.nil)) hc78 (ent_f hc78.fn rfl) (show Hp S0 σ0 _ ([Ch.own n0 n0 (Sl a37 r34 c38) r34] ++ ([Ch.ro 0 (Sl a70 r67 c71) r67] ++ [Ch.ro 0 (Sl a70 r67 c71) r67, Ch.ro n0 (Sl a70 r67 c71) r67, Ch.own n0 n0 (Sl a30 r27 c31) r27, Ch.own n0 n0 (Sl a44 r41 c45) r41, Ch.own n0 n0 (Sl a24 r21 c25) r21, Ch.ro 0 (Sl aaA_0 aA_0 caA_0) aA_0, Ch.ro 0 (Sl aaB_1 aB_1 caB_1) aB_1])) from (H.sel' [5, 0, 0, 1, 2, 3, 4, 6, 7] rfl rfl)) (by rintro _ _ _ ⟨rfl, rfl⟩; exact trivial)) wn ?_
     rintro _ σ79 ⟨_, ⟨rfl, rfl⟩, H, -, -⟩
     replace H : Hp S0 σ0 σ79 [Ch.own n0 n0 (Sl a37 r34 c38) r34, Ch.ro 0 (Sl a70 r67 c71) r67, Ch.ro n0 (Sl a70 r67 c71) r67, Ch.own n0 n0 (Sl a30 r27 c31) r27, Ch.own n0 n0 (Sl a44 r41 c45) r41, Ch.own n0 n0 (Sl a24 r21 c25) r21, Ch.ro 0 (Sl aaA_0 aA_0 caA_0) aA_0, Ch.ro 0 (Sl aaB_1 aB_1 caB_1) aB_1] := H
     clear hle
     replace H : Hp S0 σ0 σ79 [Ch.own n0 n0 (Sl a37 r34 c38) r34, Ch.ro 0 (Sl a70 r67 c71) r67, Ch.ro n0 (Sl a70 r67 c71) r67, Ch.own n0 n0 (Sl a30 r27 c31) r27, Ch.own n0 n0 (Sl a44 r41 c45) r41, Ch.own n0 n0 (Sl a24 r21 c25) r21, Ch.ro 0 (Sl aaA_0 aA_0 caA_0) aA_0, Ch.ro 0 (Sl aaB_1 aB_1 caB_1) aB_1] := H
     replace H : Hp S0 σ0 σ79 [Ch.own n0 n0 (Sl a37 r34 c38) r34, Ch.own n0 n0 (Sl a30 r27 c31) r27, Ch.own n0 n0 (Sl a44 r41 c45) r41, Ch.own n0 n0 (Sl a24 r21 c25) r21, Ch.ro 0 (Sl aaA_0 aA_0 caA_0) aA_0, Ch.ro 0 (Sl aaB_1 aB_1 caB_1) aB_1] := H.sel' [0, 3, 4, 5, 6, 7] rfl rfl
     refine st (v := (B (!r76))) (rv_not rfl) ?_
     refine w_end ?_
     refine q_then ?_
     refine cd_cond (!r76) rfl (fun hb80 => ?_) (fun hb80 => ?_)
     ·replace h := bif_t hb80 h
      refine c_seq ?_
      refine rg ?_
      refine st (v := (B false)) (rv_assign rfl) ?_
      refine w_end ?_
      refine q_then ?_
      refine c_ret ?_
      refine q_then_r ?_
      obtain rfl := Option.some.inj h
      exact fin_ret (v := (B false)) (results_ok Try.results4 (res_tmp (v := (B false)) rfl res_nil) rfl) ⟨rfl, rfl⟩ (H.sel' [] rfl rfl)
     ·replace h := bif_f hb80 h
      refine c_skip ?_
      refine q_then ?_
      refine c_seq ?_
      refine rg ?_
      refine st (v := (I 1)) (rv_assign rfl) ?_
      refine w_end ?_
      refine q_then ?_
      refine c_seq ?_
      refine rg ?_
      refine st (v := (Sl a30 r27 c31)) (rv_move rfl) ?_
      refine st (v := (I 1)) (rv_move rfl) ?_
      replace H := H.ownLow 1 0 0 rfl (Nat.zero_le _) (Nat.zero_le _)
      obtain ⟨r81, hx82, h'⟩ := bind_some h
      clear h
      have h := h'; clear h'
      have hc83 := c_laws_markIntS (aa_0 := a30) (ca_0 := c31) hx82
      refine st_call (cx_call hc83 (ent_f hc83.fn rfl) hn0 (show Hp S0 σ0 _ ([Ch.own 0 0 (Sl a30 r27 c31) r27] ++ [Ch.own n0 n0 (Sl a37 r34 c38) r34, Ch.own n0 n0 (Sl a44 r41 c45) r41, Ch.own n0 n0 (Sl a24 r21 c25) r21, Ch.ro 0 (Sl aaA_0 aA_0 caA_0) aA_0, Ch.ro 0 (Sl aaB_1 aB_1 caB_1) aB_1]) from (H.sel' [0, 1, 2, 3, 4, 5] rfl rfl))) wn ?_
      rintro _ σ85 ⟨_, ⟨rfl, rfl, hn84⟩, H, -⟩
      replace H : Hp S0 σ0 σ85 [Ch.own 0 0 (Sl a30 r81.2 c31) r81.2, Ch.own n0 n0 (Sl a37 r34 c38) r34, Ch.own n0 n0 (Sl a44 r41 c45) r41, Ch.own n0 n0 (Sl a24 r21 c25) r21, Ch.ro 0 (Sl aaA_0 aA_0 caA_0) aA_0, Ch.ro 0 (Sl aaB_1 aB_1 caB_1) aB_1] := H
      have hsl : (Sl a30 r27 c31) = (Sl a30 r81.2 c31) := sl_len hn84.symm
      try rw [hsl]
      try rw [hsl] at H
      clear hsl
      refine st (v := (I r81.1)) (rv_assign rfl) ?_
      refine w_end ?_
      refine q_then ?_
      refine c_seq ?_
      refine rg ?_
      refine st (v := (Sl a37 r34 c38)) (rv_move rfl) ?_
      refine st (v := (I r81.1)) (rv_move rfl) ?_
      replace H := H.ownLow 1 0 0 rfl (Nat.zero_le _) (Nat.zero_le _)
      obtain ⟨r86, hx87, h'⟩ := bind_some h
      clear h
      have h := h'; clear h'
      have hc88 := c_laws_markIntS (aa_0 := a37) (ca_0 := c38) hx87
      refine st_call (cx_call hc88 (ent_f hc88.fn rfl) hn0 (show Hp S0 σ0 _ ([Ch.own 0 0 (Sl a37 r34 c38) r34] ++ [Ch.own 0 0 (Sl a30 r81.2 c31) r81.2, Ch.own n0 n0 (Sl a44 r41 c45) r41, Ch.own n0 n0 (Sl a24 r21 c25) r21, Ch.ro 0 (Sl aaA_0 aA_0 caA_0) aA_0, Ch.ro 0 (Sl aaB_1 aB_1 caB_1) aB_1]) from (H.sel' [0, 1, 2, 3, 4, 5] rfl rfl))) wn ?_
      rintro _ σ90 ⟨_, ⟨rfl, rfl, hn89⟩, H, -⟩
      replace H : Hp S0 σ0 σ90 [Ch.own 0 0 (Sl a37 r86.2 c38) r86.2, Ch.own 0 0 (Sl a30 r81.2 c31) r81.2, Ch.own n0 n0 (Sl a44 r41 c45) r41, Ch.own n0 n0 (Sl a24 r21 c25) r21, Ch.ro 0 (Sl aaA_0 aA_0 caA_0) aA_0, Ch.ro 0 (Sl aaB_1 aB_1 caB_1) aB_1] := H
      have hsl : (Sl a37 r34 c38) = (Sl a37 r86.2 c38) := sl_len hn89.symm
      try rw [hsl]
      try rw [hsl] at H
      clear hsl
      refine st (v := (I r86.1)) (rv_assign rfl) ?_
      refine w_end ?_
      refine q_then ?_
      refine c_seq ?_
      refine c_seq ?_
      obtain ⟨o91, hj, h'⟩ := bind_some h
      clear h
      refine c_cut (fun e a w => e = .normal ∧ ∃ (ρ : Nat → Value) (σ : St), a = fr 92 (updL ρ [(0, (Sl aaA_0 aA_0 caA_0)), (1, (Sl aaB_1 aB_1 caB_1)), (2, (I aPart_2)), (7, (Sl a24 r21 c25)), (10, (Sl a44 r41 c45)), (62, (B o91))]) ∧ w = σ.w ∧ Hp S0 σ0 σ [Ch.ro 0 (Sl aaA_0 aA_0 caA_0) aA_0, Ch.ro 0 (Sl aaB_1 aB_1 caB_1) aB_1, Ch.own n0 n0 (Sl a24 r21 c25) r21, Ch.own n0 n0 (Sl a44 r41 c45) r41]) ?_ ?_
      ·clear h'
       rename _ = some o91 => h
       refine rg ?_
       refine st (v := (I r86.1)) (rv_move rfl) ?_
       refine st (v := (B (decide (r86.1 < 0)))) (rv_lss (a := r86.1) (b := 0) rfl rfl) ?_
       refine st (v := (B (decide (r86.1 < 0)))) (rv_move rfl) ?_
       rcases Bool.eq_false_or_eq_true (decide (r86.1 < 0)) with hb92 | hb92
       ·replace h := bif_t hb92 h
        refine st_skip (congrArg some hb92) ?_
        refine st_skip (congrArg some hb92) ?_
        refine st_skip (congrArg some hb92) ?_
        refine st_skip (congrArg some hb92) ?_
        refine st (v := (B true)) (rv_pick_t (congrArg B hb92) rfl) ?_
        refine w_end ?_
        obtain rfl := Option.some.inj h
        exact ⟨rfl, _, σ90, fr_join ⟨rfl, rfl, rfl, rfl, rfl, rfl, trivial⟩, rfl, H.sel' [4, 5, 3, 2] rfl rfl⟩
       ·replace h := bif_f hb92 h
        refine st_g (v := (Sl a44 r41 c45)) (congrArg some hb92) (rv_move rfl) ?_
        refine st_g (v := (Sl a24 r21 c25)) (congrArg some hb92) (rv_move rfl) ?_
        obtain ⟨r93, hx94, h'⟩ := bind_some h
        clear h
        have h := h'; clear h'
        have hc95 := c_laws_eqIntS (aa_0 := a44) (ca_0 := c45) (ab_1 := a24) (cb_1 := c25) hx94
        have hle := Nat.le_trans hn0 H.size
        refine st_call (cx_lend (Loan.lend (Loan.lend Loan.nil)) hc95 (ent_f hc95.fn rfl) (show Hp S0 σ0 _ ([Ch.own n0 n0 (Sl a44 r41 c45) r41, Ch.own n0 n0 (Sl a24 r21 c25) r21] ++ ([] ++ [Ch.own 0 0 (Sl a37 r86.2 c38) r86.2, Ch.own 0 0 (Sl a30 r81.2 c31) r81.2, Ch.ro 0 (Sl aaA_0 aA_0 caA_0) aA_0, Ch.ro 0 (Sl aaB_1 aB_1 caB_1) aB_1])) from (H.sel' [2, 3, 0, 1, 4, 5] rfl rfl)) (by rintro _ _ _ ⟨rfl, rfl⟩; exact trivial)) (wanted_yes rfl (by exact (congrArg some hb92))) ?_
        rintro _ σ96 ⟨_, ⟨rfl, rfl⟩, H, -, -⟩
        replace H : Hp S0 σ0 σ96 [Ch.own n0 n0 (Sl a44 r41 c45) r41, Ch.own n0 n0 (Sl a24 r21 c25) r21, Ch.own 0 0 (Sl a37 r86.2 c38) r86.2, Ch.own 0 0 (Sl a30 r81.2 c31) r81.2, Ch.ro 0 (Sl aaA_0 aA_0 caA_0) aA_0, Ch.ro 0 (Sl aaB_1 aB_1 caB_1) aB_1] := H
        clear hle
        replace H : Hp S0 σ0 σ96 [Ch.own n0 n0 (Sl a44 r41 c45) r41, Ch.own n0 n0 (Sl a24 r21 c25) r21, Ch.own 0 0 (Sl a37 r86.2 c38) r86.2, Ch.own 0 0 (Sl a30 r81.2 c31) r81.2, Ch.ro 0 (Sl aaA_0 aA_0 caA_0) aA_0, Ch.ro 0 (Sl aaB_1 aB_1 caB_1) aB_1] := H
        refine st_g (v := (B (!r93))) (congrArg some hb92) (rv_not rfl) ?_
        refine st (v := (B (!r93))) (rv_pick_f (congrArg B hb92) rfl) ?_
        refine w_end ?_
        obtain rfl := Option.some.inj h
        exact ⟨rfl, _, σ96, fr_join ⟨rfl, rfl, rfl, rfl, rfl, rfl, trivial⟩, rfl, H.sel' [4, 5, 1, 0] rfl rfl⟩
      ·clear hj
       have h := h'
       clear h' H
       rintro e a w ⟨rfl, ρ, σ97, rfl, rfl, H⟩
       refine q_then ?_
       refine cd_cond o91 rfl (fun hb98 => ?_) (fun hb98 => ?_)
       ·replace h := bif_t hb98 h
        refine c_seq ?_
        refine rg ?_
        refine st (v := (B false)) (rv_assign rfl) ?_
        refine w_end ?_
        refine q_then ?_
        refine c_ret ?_
        refine q_then_r ?_
        obtain rfl := Option.some.inj h
        exact fin_ret (v := (B false)) (results_ok Try.results4 (res_tmp (v := (B false)) rfl res_nil) rfl) ⟨rfl, rfl⟩ (H.sel' [] rfl rfl)
       ·replace h := bif_f hb98 h
        refine c_skip ?_
        refine q_then ?_
        refine c_seq ?_
        refine rg ?_
        refine st (v := (I 1)) (rv_assign rfl) ?_
        refine w_end ?_
        refine q_then ?_
        refine c_seq ?_
        refine rg ?_
        refine st (v := (Sl a44 r41 c45)) (rv_move rfl) ?_
        refine st (v := (I 1)) (rv_move rfl) ?_
        replace H := H.ownLow 3 0 0 rfl (Nat.zero_le _) (Nat.zero_le _)
        obtain ⟨r99, hx100, h'⟩ := bind_some h
        clear h
        have h := h'; clear h'
        have hc101 := c_laws_markIntS (aa_0 := a44) (ca_0 := c45) hx100
        refine st_call (cx_call hc101 (ent_f hc101.fn rfl) hn0 (show Hp S0 σ0 _ ([Ch.own 0 0 (Sl a44 r41 c45) r41] ++ [Ch.ro 0 (Sl aaA_0 aA_0 caA_0) aA_0, Ch.ro 0 (Sl aaB_1 aB_1 caB_1) aB_1, Ch.own n0 n0 (Sl a24 r21 c25) r21]) from (H.sel' [0, 1, 2, 3] rfl rfl))) wn ?_
        rintro _ σ103 ⟨_, ⟨rfl, rfl, hn102⟩, H, -⟩
        replace H : Hp S0 σ0 σ103 [Ch.own 0 0 (Sl a44 r99.2 c45) r99.2, Ch.ro 0 (Sl aaA_0 aA_0 caA_0) aA_0, Ch.ro 0 (Sl aaB_1 aB_1 caB_1) aB_1, Ch.own n0 n0 (Sl a24 r21 c25) r21] := H
        have hsl : (Sl a44 r41 c45) = (Sl a44 r99.2 c45) := sl_len hn102.symm
        try rw [hsl]
        try rw [hsl] at H
        clear hsl
        refine st (v := (I r99.1)) (rv_assign rfl) ?_
        refine w_end ?_
        refine q_then ?_
        refine c_seq ?_
        refine rg ?_
        refine st (v := (I 1)) (rv_assign rfl) ?_
        refine w_end ?_
        refine q_then ?_
        refine c_seq ?_
        refine rg ?_
        refine st (v := (Sl a44 r99.2 c45)) (rv_move rfl) ?_
        refine st (v := (I 1)) (rv_move rfl) ?_
        obtain ⟨r104, hx105, h'⟩ := bind_some h
        clear h
        have h := h'; clear h'
        have hc106 := c_laws_heldIntS (aa_0 := a44) (ca_0 := c45) hx105
        have hle := Nat.le_trans hn0 H.size
        refine st_call (cx_lend (Loan.lend Loan.nil) hc106 (ent_f hc106.fn rfl) (show Hp S0 σ0 _ ([Ch.own 0 0 (Sl a44 r99.2 c45) r99.2] ++ ([] ++ [Ch.ro 0 (Sl aaA_0 aA_0 caA_0) aA_0, Ch.ro 0 (Sl aaB_1 aB_1 caB_1) aB_1, Ch.own n0 n0 (Sl a24 r21 c25) r21])) from (H.sel' [0, 1, 2, 3] rfl rfl)) (by rintro _ _ _ ⟨rfl, rfl⟩; exact trivial)) wn ?_
        rintro _ σ107 ⟨_, ⟨rfl, rfl⟩, H, -, -⟩
        replace H : Hp S0 σ0 σ107 [Ch.own 0 0 (Sl a44 r99.2 c45) r99.2, Ch.ro 0 (Sl aaA_0 aA_0 caA_0) aA_0, Ch.ro 0 (Sl aaB_1 aB_1 caB_1) aB_1, Ch.own n0 n0 (Sl a24 r21 c25) r21] := H
        clear hle
        replace H : Hp S0 σ0 σ107 [Ch.own 0 0 (Sl a44 r99.2 c45) r99.2, Ch.ro 0 (Sl aaA_0 aA_0 caA_0) aA_0, Ch.ro 0 (Sl aaB_1 aB_1 caB_1) aB_1, Ch.own n0 n0 (Sl a24 r21 c25) r21] := H
        refine st (v := (I r104)) (rv_assign rfl) ?_
        refine w_end ?_
        refine q_then ?_
        refine c_seq ?_
        refine c_seq ?_
        refine rg ?_
        refine st (v := (I r104)) (rv_move rfl) ?_
        refine st (v := (B (decide (r104 < 0)))) (rv_lss (a := r104) (b := 0) rfl rfl) ?_
        refine w_end ?_
        refine q_then ?_
        refine cd_cond (decide (r104 < 0)) rfl (fun hb108 => ?_) (fun hb108 => ?_)
        ·replace h := bif_t hb108 h
         refine c_seq ?_
         refine rg ?_
         refine st (v := (B false)) (rv_assign rfl) ?_
         refine w_end ?_
         refine q_then ?_
         refine c_ret ?_
         refine q_then_r ?_
         obtain rfl := Option.some.inj h
         exact fin_ret (v := (B false)) (results_ok Try.results4 (res_tmp (v := (B false)) rfl res_nil) rfl) ⟨rfl, rfl⟩ (H.sel' [] rfl rfl)
        ·replace h := bif_f hb108 h
         refine c_skip ?_
         refine q_then ?_
         refine c_seq ?_
         refine c_seq ?_
         refine rg ?_
         refine st (v := (I r104)) (rv_move rfl) ?_
         refine st (v := (I r99.1)) (rv_move rfl) ?_
         refine st (v := (B (r104 != r99.1))) (rv_neq (a := r104) (b := r99.1) rfl rfl) ?_
         refine w_end ?_
         refine q_then ?_
         refine cd_cond (r104 != r99.1) rfl (fun hb109 => ?_) (fun hb109 => ?_)
         ·replace h := bif_t hb109 h
          refine c_seq ?_
          refine rg ?_
          refine st (v := (B false)) (rv_assign rfl) ?_
          refine w_end ?_
          refine q_then ?_
          refine c_ret ?_
          refine q_then_r ?_
          obtain rfl := Option.some.inj h
          exact fin_ret (v := (B false)) (results_ok Try.results4 (res_tmp (v := (B false)) rfl res_nil) rfl) ⟨rfl, rfl⟩ (H.sel' [] rfl rfl)
         ·replace h := bif_f hb109 h
          refine c_skip ?_
          refine q_then ?_
          refine c_seq ?_
          refine rg ?_
          refine st (v := (Sl aaA_0 aA_0 caA_0)) (rv_move rfl) ?_
          obtain ⟨r110, hx111, h'⟩ := bind_some h
          clear h
          have h := h'; clear h'
          have hc112 := c_laws_toIntS (aa_0 := aaA_0) (ca_0 := caA_0) hx111
          refine st_call (cx_call hc112 (ent_f hc112.fn rfl) hn0 (show Hp S0 σ0 _ ([Ch.ro 0 (Sl aaA_0 aA_0 caA_0) aA_0] ++ [Ch.own 0 0 (Sl a44 r99.2 c45) r99.2, Ch.ro 0 (Sl aaA_0 aA_0 caA_0) aA_0, Ch.ro 0 (Sl aaB_1 aB_1 caB_1) aB_1, Ch.own n0 n0 (Sl a24 r21 c25) r21]) from (H.sel' [1, 0, 1, 2, 3] rfl rfl))) wn ?_
          rintro _ σ116 ⟨_, ⟨a113, c114, rfl, rfl, ht115⟩, H, -⟩
          replace H : Hp S0 σ0 σ116 [Ch.own n0 n0 (Sl a113 r110 c114) r110, Ch.own 0 0 (Sl a44 r99.2 c45) r99.2, Ch.ro 0 (Sl aaA_0 aA_0 caA_0) aA_0, Ch.ro 0 (Sl aaB_1 aB_1 caB_1) aB_1, Ch.own n0 n0 (Sl a24 r21 c25) r21] := H
          refine st (v := (Sl aaB_1 aB_1 caB_1)) (rv_move rfl) ?_
          obtain ⟨r117, hx118, h'⟩ := bind_some h
          clear h
          have h := h'; clear h'
          have hc119 := c_laws_toIntS (aa_0 := aaB_1) (ca_0 := caB_1) hx118
          refine st_call (cx_call hc119 (ent_f hc119.fn rfl) hn0 (show Hp S0 σ0 _ ([Ch.ro 0 (Sl aaB_1 aB_1 caB_1) aB_1] ++ [Ch.own n0 n0 (Sl a113 r110 c114) r110, Ch.own 0 0 (Sl a44 r99.2 c45) r99.2, Ch.ro 0 (Sl aaA_0 aA_0 caA_0) aA_0, Ch.ro 0 (Sl aaB_1 aB_1 caB_1) aB_1, Ch.own n0 n0 (Sl a24 r21 c25) r21]) from (H.sel' [3, 0, 1, 2, 3, 4] rfl rfl))) wn ?_
          rintro _ σ123 ⟨_, ⟨a120, c121, rfl, rfl, ht122⟩, H, -⟩
          replace H : Hp S0 σ0 σ123 [Ch.own n0 n0 (Sl a120 r117 c121) r117, Ch.own n0 n0 (Sl a113 r110 c114) r110, Ch.own 0 0 (Sl a44 r99.2 c45) r99.2, Ch.ro 0 (Sl aaA_0 aA_0 caA_0) aA_0, Ch.ro 0 (Sl aaB_1 aB_1 caB_1) aB_1, Ch.own n0 n0 (Sl a24 r21 c25) r21] := H
          refine st (v := (I aPart_2)) (rv_move rfl) ?_
          obtain ⟨σ124, hw125, H, -⟩ := H.pub 1 rfl (Nat.le_refl _)
          rw [← hw125]; clear hw125
          obtain ⟨σ126, hw127, H, -⟩ := H.pub 1 rfl (Nat.le_refl _)
          rw [← hw127]; clear hw127
          replace H := H.roLow 1 0 rfl (Nat.zero_le _)
          replace H := H.roLow 1 0 rfl (Nat.zero_le _)
          obtain ⟨r128, hx129, h'⟩ := bind_some h
          clear h
          have h := h'; clear h'
          have hc130 := c_impl_MoveTo (aa_0 := a113) (ca_0 := c114) (ab_1 := a120) (cb_1 := c121) hx129
          refine st_call (cx_call hc130 (ent_f hc130.fn rfl) hn0 (show Hp S0 σ0 _ ([Ch.ro 0 (Sl a113 r110 c114) r110, Ch.ro 0 (Sl a120 r117 c121) r117] ++ [Ch.ro 0 (Sl a120 r117 c121) r117, Ch.ro 0 (Sl a113 r110 c114) r110, Ch.ro n0 (Sl a120 r117 c121) r117, Ch.ro n0 (Sl a113 r110 c114) r110, Ch.own 0 0 (Sl a44 r99.2 c45) r99.2, Ch.ro 0 (Sl aaA_0 aA_0 caA_0) aA_0, Ch.ro 0 (Sl aaB_1 aB_1 caB_1) aB_1, Ch.own n0 n0 (Sl a24 r21 c25) r21]) from (H.sel' [1, 0, 0, 1, 2, 3, 4, 5, 6, 7] rfl rfl))) wn ?_
          rintro _ σ134 ⟨_, ⟨a131, c132, rfl, rfl, ht133⟩, H, -⟩
          replace H : Hp S0 σ0 σ134 [Ch.own n0 n0 (Sl a131 r128 c132) r128, Ch.ro 0 (Sl a120 r117 c121) r117, Ch.ro 0 (Sl a113 r110 c114) r110, Ch.ro n0 (Sl a120 r117 c121) r117, Ch.ro n0 (Sl a113 r110 c114) r110, Ch.own 0 0 (Sl a44 r99.2 c45) r99.2, Ch.ro 0 (Sl aaA_0 aA_0 caA_0) aA_0, Ch.ro 0 (Sl aaB_1 aB_1 caB_1) aB_1, Ch.own n0 n0 (Sl a24 r21 c25) r21] := H
          replace H : Hp S0 σ0 σ134 [Ch.own n0 n0 (Sl a131 r128 c132) r128, Ch.own 0 0 (Sl a44 r99.2 c45) r99.2, Ch.own n0 n0 (Sl a24 r21 c25) r21] := H.sel' [0, 5, 8] rfl rfl
          refine st (v := (Sl a131 r128 c132)) (rv_assign rfl) ?_
          refine w_end ?_
          refine q_then ?_
          refine c_seq ?_
          refine c_seq ?_
          refine rg ?_
          refine st (v := (Sl a131 r128 c132)) (rv_move rfl) ?_
          refine st (v := (Sl a24 r21 c25)) (rv_move rfl) ?_
          obtain ⟨σ135, hw136, H, -⟩ := H.pub 0 rfl (Nat.le_refl _)
          rw [← hw136]; clear hw136
          obtain ⟨σ137, hw138, H, -⟩ := H.pub 2 rfl (Nat.le_refl _)
          rw [← hw138]; clear hw138
          replace H := H.roLow 1 0 rfl (Nat.zero_le _)
          replace H := H.roLow 1 0 rfl (Nat.zero_le _)
          obtain ⟨r139, hx140, h'⟩ := bind_some h
          clear h
          have h := h'; clear h'
          have hc141 := c_laws_eqIntS (aa_0 := a131) (ca_0 := c132) (ab_1 := a24) (cb_1 := c25) hx140
          refine st_call (cx_call hc141 (ent_f hc141.fn rfl) hn0 (show Hp S0 σ0 _ ([Ch.ro 0 (Sl a131 r128 c132) r128, Ch.ro 0 (Sl a24 r21 c25) r21] ++ [Ch.ro 0 (Sl a24 r21 c25) r21, Ch.ro 0 (Sl a131 r128 c132) r128, Ch.ro n0 (Sl a24 r21 c25) r21, Ch.ro n0 (Sl a131 r128 c132) r128, Ch.own 0 0 (Sl a44 r99.2 c45) r99.2]) from (H.sel' [1, 0, 0, 1, 2, 3, 4] rfl rfl))) wn ?_
          rintro _ σ142 ⟨_, ⟨rfl, rfl⟩, H, -⟩
          replace H : Hp S0 σ0 σ142 [Ch.ro 0 (Sl a24 r21 c25) r21, Ch.ro 0 (Sl a131 r128 c132) r128, Ch.ro n0 (Sl a24 r21 c25) r21, Ch.ro n0 (Sl a131 r128 c132) r128, Ch.own 0 0 (Sl a44 r99.2 c45) r99.2] := H
          refine st (v := (B (!r139))) (rv_not rfl) ?_
          refine w_end ?_
          refine q_then ?_
          refine cd_cond (!r139) rfl (fun hb143 => ?_) (fun hb143 => ?_)
          ·replace h := bif_t hb143 h
           refine c_seq ?_
           refine rg ?_
           refine st (v := (B false)) (rv_assign rfl) ?_
           refine w_end ?_
           refine q_then ?_
           refine c_ret ?_
           refine q_then_r ?_
           obtain rfl := Option.some.inj h
           exact fin_ret (v := (B false)) (results_ok Try.results4 (res_tmp (v := (B false)) rfl res_nil) rfl) ⟨rfl, rfl⟩ (H.sel' [] rfl rfl)
          ·replace h := bif_f hb143 h
           refine c_skip ?_
           refine q_then ?_
           refine c_seq ?_
           refine rg ?_
           refine st (v := (I 1)) (rv_assign rfl) ?_
           refine w_end ?_
           refine q_then ?_
           refine c_seq ?_
           refine rg ?_
           refine st (v := (Sl a44 r99.2 c45)) (rv_move rfl) ?_
           refine st (v := (I 1)) (rv_move rfl) ?_
           obtain ⟨σ144, hw145, H, -⟩ := H.pub 4 rfl (Nat.le_refl _)
           rw [← hw145]; clear hw145
           obtain ⟨r146, hx147, h'⟩ := bind_some h
           clear h
           have h := h'; clear h'
           have hc148 := c_laws_heldIntS (aa_0 := a44) (ca_0 := c45) hx147
           refine st_call (cx_call hc148 (ent_f hc148.fn rfl) hn0 (show Hp S0 σ0 _ ([Ch.ro 0 (Sl a44 r99.2 c45) r99.2] ++ [Ch.ro 0 (Sl a44 r99.2 c45) r99.2, Ch.ro 0 (Sl a24 r21 c25) r21, Ch.ro 0 (Sl a131 r128 c132) r128, Ch.ro n0 (Sl a24 r21 c25) r21, Ch.ro n0 (Sl a131 r128 c132) r128]) from (H.sel' [0, 0, 1, 2, 3, 4] rfl rfl))) wn ?_
           rintro _ σ149 ⟨_, ⟨rfl, rfl⟩, H, -⟩
           replace H : Hp S0 σ0 σ149 [Ch.ro 0 (Sl a44 r99.2 c45) r99.2, Ch.ro 0 (Sl a24 r21 c25) r21, Ch.ro 0 (Sl a131 r128 c132) r128, Ch.ro n0 (Sl a24 r21 c25) r21, Ch.ro n0 (Sl a131 r128 c132) r128] := H
           refine st (v := (I r146)) (rv_assign rfl) ?_
           refine w_end ?_
           refine q_then ?_
           refine c_seq ?_
           refine c_seq ?_
           refine rg ?_
           refine st (v := (I r146)) (rv_move rfl) ?_
           refine st (v := (B (decide (r146 < 0)))) (rv_lss (a := r146) (b := 0) rfl rfl) ?_
           refine w_end ?_
           refine q_then ?_
           refine cd_cond (decide (r146 < 0)) rfl (fun hb150 => ?_) (fun hb150 => ?_)
           ·replace h := bif_t hb150 h
            refine c_seq ?_
            refine rg ?_
            refine st (v := (B false)) (rv_assign rfl) ?_
            refine w_end ?_
            refine q_then ?_
            refine c_ret ?_
            refine q_then_r ?_
            obtain rfl := Option.some.inj h
            exact fin_ret (v := (B false)) (results_ok Try.results4 (res_tmp (v := (B false)) rfl res_nil) rfl) ⟨rfl, rfl⟩ (H.sel' [] rfl rfl)
           ·replace h := bif_f hb150 h
            refine c_skip ?_
            refine q_then ?_
            refine c_seq ?_
            refine c_seq ?_
            refine rg ?_
            refine st (v := (I r146)) (rv_move rfl) ?_
            refine st (v := (I r99.1)) (rv_move rfl) ?_
            refine st (v := (B (r146 != r99.1))) (rv_neq (a := r146) (b := r99.1) rfl rfl) ?_
            refine w_end ?_
            refine q_then ?_
            refine cd_cond (r146 != r99.1) rfl (fun hb151 => ?_) (fun hb151 => ?_)
            ·replace h := bif_t hb151 h
             refine c_seq ?_
             refine rg ?_
             refine st (v := (B false)) (rv_assign rfl) ?_
             refine w_end ?_
             refine q_then ?_
             refine c_ret ?_
             refine q_then_r ?_
             obtain rfl := Option.some.inj h
             exact fin_ret (v := (B false)) (results_ok Try.results4 (res_tmp (v := (B false)) rfl res_nil) rfl) ⟨rfl, rfl⟩ (H.sel' [] rfl rfl)
            ·replace h := bif_f hb151 h
             refine c_skip ?_
             refine q_then ?_
             refine c_seq ?_
             refine rg ?_
             refine st (v := (B true)) (rv_assign rfl) ?_
             refine w_end ?_
             refine q_then ?_
             refine c_ret ?_
             obtain rfl := Option.some.inj h
             exact fin_ret (v := (B true)) (results_ok Try.results4 (res_tmp (v := (B true)) rfl res_nil) rfl) ⟨rfl, rfl⟩ (H.sel' [] rfl rfl)

end Go.Vs
