/- The functions compute what their models say. -/
import Derived.Test.YtbnhppnkdmnneaaKExactMeanOfM
import Derived.Test.YtbnhppnkdmnneaaExactMeanOfEng1
import Derived.Test.YtbnhppnkdmnneaaProg
set_option linter.unusedVariables false
set_option linter.unusedSimpArgs false
set_option maxRecDepth 20000
namespace Go.Vs
open Go Go.Proofs
attribute [local irreducible] Code.wp Code.wpIn wpList wpListIn wpQuiet Calls CallsIn

theorem ti3 : TI Try.prog 3 (.int .i64 0) 1 8 := TI.mk' (by kernel_rfl)
theorem ti22 : TI Try.prog 22 (.slice none 0 0) 1 24 := TI.mk' (by kernel_rfl)
theorem ti24 : TI Try.prog 24 (.slice none 0 0) 1 24 := TI.mk' (by kernel_rfl)
theorem ti57 : TI Try.prog 57 (.agg #[(.int .i64 0), (.int .i64 0), (.int .i64 0), (.int .i64 0)]) 4 32 := TI.mk' (by kernel_rfl)

theorem c_laws_szIntS {a_0 : List Int} {left_1 : Int} {aa_0 : Option Addr} {ca_0 : Nat} {r : Int} (h : M.laws_szIntS a_0 left_1 = some r) :
    Cal2 Try.prog 46 [(Sl aa_0 a_0 ca_0), (I left_1)] [Ch.ro 0 (Sl aa_0 a_0 ca_0) a_0] (fun n0 v L => v = (I r) ∧ L = []) := by
 refine cal2 (n := 12) Try.func46 rfl rfl rfl rfl ?_
 intro S0 σ0 n0 hn0 H
 unfold M.laws_szIntS at h
 refine c_seq ?_
 refine rg ?_
 refine st (v := (I 0)) (rv_assign rfl) ?_
 refine w_end ?_
 refine q_then ?_
 refine c_seq ?_
 refine rg ?_
 refine st (v := (I left_1)) (rv_move rfl) ?_
 refine st (v := (Sl aa_0 a_0 ca_0)) (rv_move rfl) ?_
 refine st (v := (I (a_0.length : Int))) (rv_len Try.underlying24 rfl) ?_
 refine st (v := (I (w64 (left_1 - (a_0.length : Int))))) (rv_sub (a := left_1) (b := (a_0.length : Int)) rfl rfl) ?_
 refine st (v := (I (w64 (left_1 - (a_0.length : Int))))) (rv_assign rfl) ?_
 refine w_end ?_
 refine q_then ?_
 refine c_seq ?_
 refine c_seq ?_
 refine rg ?_
 refine st (v := (I (w64 (left_1 - (a_0.length : Int))))) (rv_move rfl) ?_
 refine st (v := (B (decide ((w64 (left_1 - (a_0.length : Int))) < 0)))) (rv_lss (a := (w64 (left_1 - (a_0.length : Int)))) (b := 0) rfl rfl) ?_
 refine w_end ?_
 refine q_then ?_
 refine cd_cond (decide ((w64 (left_1 - (a_0.length : Int))) < 0)) rfl (fun hb1 => ?_) (fun hb1 => ?_)
 ·replace h := bif_t hb1 h
  refine c_seq ?_
  refine rg ?_
  refine st (v := (I (-1))) (rv_assign rfl) ?_
  refine w_end ?_
  refine q_then ?_
  refine c_ret ?_
  refine q_then_r ?_
  obtain rfl := Option.some.inj h
  exact fin_ret (v := (I (-1))) (results_ok Try.results46 (res_tmp (v := (I (-1))) rfl res_nil) rfl) ⟨rfl, rfl⟩ (H.sel' [] rfl rfl)
 ·replace h := bif_f hb1 h
  refine c_skip ?_
  refine q_then ?_
  refine c_seq ?_
  refine rg ?_
  refine st (v := (I (w64 (left_1 - (a_0.length : Int))))) (rv_move rfl) ?_
  refine st (v := (I (w64 (left_1 - (a_0.length : Int))))) (rv_assign rfl) ?_
  refine w_end ?_
  refine q_then ?_
  refine c_ret ?_
  obtain rfl := Option.some.inj h
  exact fin_ret (v := (I (w64 (left_1 - (a_0.length : Int))))) (results_ok Try.results46 (res_tmp (v := (I (w64 (left_1 - (a_0.length : Int))))) rfl res_nil) rfl) ⟨rfl, rfl⟩ (H.sel' [] rfl rfl)

theorem c_laws_szIntSS {a_0 : List (List Int)} {left_1 : Int} {aa_0 : Option Addr} {ca_0 : Nat} {r : Int} (h : M.laws_szIntSS a_0 left_1 = some r) :
    Cal2 Try.prog 13 [(Sl aa_0 a_0 ca_0), (I left_1)] [Ch.ro 0 (Sl aa_0 a_0 ca_0) a_0] (fun n0 v L => v = (I r) ∧ L = []) := by
 refine cal2 (n := 27) Try.func13 rfl rfl rfl rfl ?_
 intro S0 σ0 n0 hn0 H
 unfold M.laws_szIntSS at h
 refine c_seq ?_
 refine rg ?_
 refine st (v := (I 0)) (rv_assign rfl) ?_
 refine w_end ?_
 refine q_then ?_
 refine c_seq ?_
 refine rg ?_
 refine st (v := (I left_1)) (rv_move rfl) ?_
 refine st (v := (Sl aa_0 a_0 ca_0)) (rv_move rfl) ?_
 refine st (v := (I (a_0.length : Int))) (rv_len Try.underlying22 rfl) ?_
 refine st (v := (I (w64 (left_1 - (a_0.length : Int))))) (rv_sub (a := left_1) (b := (a_0.length : Int)) rfl rfl) ?_
 refine st (v := (I (w64 (left_1 - (a_0.length : Int))))) (rv_assign rfl) ?_
 refine w_end ?_
 refine q_then ?_
 refine c_seq ?_
 refine c_seq ?_
 refine rg ?_
 refine st (v := (I (w64 (left_1 - (a_0.length : Int))))) (rv_move rfl) ?_
 refine st (v := (B (decide ((w64 (left_1 - (a_0.length : Int))) < 0)))) (rv_lss (a := (w64 (left_1 - (a_0.length : Int)))) (b := 0) rfl rfl) ?_
 refine w_end ?_
 refine q_then ?_
 refine cd_cond (decide ((w64 (left_1 - (a_0.length : Int))) < 0)) rfl (fun hb1 => ?_) (fun hb1 => ?_)
 ·replace h := bif_t hb1 h
  refine c_seq ?_
  refine rg ?_
  refine st (v := (I (-1))) (rv_assign rfl) ?_
  refine w_end ?_
  refine q_then ?_
  refine c_ret ?_
  refine q_then_r ?_
  obtain rfl := Option.some.inj h
  exact fin_ret (v := (I (-1))) (results_ok Try.results13 (res_tmp (v := (I (-1))) rfl res_nil) rfl) ⟨rfl, rfl⟩ (H.sel' [] rfl rfl)
 ·replace h := bif_f hb1 h
  refine c_skip ?_
  refine q_then ?_
  refine c_seq ?_
  refine c_seq ?_
  refine rg ?_
  refine st (v := (I 0)) (rv_assign rfl) ?_
  refine w_end ?_
  refine q_then ?_
  obtain ⟨o2, hj, h'⟩ := bind_some h
  clear h
  refine c_cut (fun e a w => (∃ t, o2 = (.inl t) ∧ e = .normal ∧ ∃ (ρ : Nat → Value) (σ : St), a = fr 27 (updL ρ [(1, (I t))]) ∧ w = σ.w ∧ Hp S0 σ0 σ []) ∨ (∃ t, o2 = (.inr t) ∧ e = .ret ∧ ∃ (ρ : Nat → Value) (σ : St), a = fr 27 (updL ρ [(4, (I t))]) ∧ w = σ.w ∧ Hp S0 σ0 σ [])) ?_ ?_
  ·clear h'
   rename _ = some o2 => h
   refine c_blk ?_
   refine wp_loopM _ h (fun s3 a w => ∃ (ρ : Nat → Value) (σ : St), a = fr 27 (updL ρ [(0, (Sl aa_0 a_0 ca_0)), (1, (I s3.1)), (5, (I s3.2))]) ∧ w = σ.w ∧ Hp S0 σ0 σ [Ch.ro 0 (Sl aa_0 a_0 ca_0) a_0]) ⟨_, σ0, fr_join ⟨rfl, rfl, rfl, trivial⟩, rfl, H.sel' [0] rfl rfl⟩ ?_
   clear h H
   rintro s3 a w o ⟨ρ, σ4, rfl, rfl, H⟩ h hres
   refine c_seq ?_
   refine c_seq ?_
   refine rg ?_
   refine st (v := (I s3.2)) (rv_move rfl) ?_
   refine st (v := (Sl aa_0 a_0 ca_0)) (rv_move rfl) ?_
   refine st (v := (I (a_0.length : Int))) (rv_len Try.underlying22 rfl) ?_
   refine st (v := (B (decide (s3.2 < (a_0.length : Int))))) (rv_lss (a := s3.2) (b := (a_0.length : Int)) rfl rfl) ?_
   refine w_end ?_
   refine q_then ?_
   refine cd_cond (decide (s3.2 < (a_0.length : Int))) rfl (fun hb5 => ?_) (fun hb5 => ?_)
   ·replace h := bif_t hb5 h
    refine c_skip ?_
    refine q_then ?_
    refine c_seq ?_
    refine c_blk ?_
    refine c_seq ?_
    refine rg ?_
    refine st (v := (Sl aa_0 a_0 ca_0)) (rv_move rfl) ?_
    refine st (v := (I s3.2)) (rv_move rfl) ?_
    obtain ⟨x6, hx7, h'⟩ := bind_some h
    clear h
    have h := h'; clear h'
    obtain ⟨b9, o10, hi8, -⟩ := (H.ro 0 rfl).ix hx7
    refine st (v := (pt b9 o10)) (rv_ix Try.underlying22 ti24 rfl rfl hi8) ?_
    obtain ⟨v14, hc15, hR13⟩ := ((H.ro 0 rfl).at hx7 hi8).slice
    obtain ⟨a11, c12, rfl⟩ := hR13.isSl
    replace H := H.add (d := Ch.ro 0 (Sl a11 x6 c12) x6) hR13 (fun _ h => h)
    clear hR13
    refine st (v := (Sl a11 x6 c12)) (rv_load1 Try.underlying24 rfl rfl hc15) ?_
    refine st (v := (I s3.1)) (rv_move rfl) ?_
    obtain ⟨r16, hx17, h'⟩ := bind_some h
    clear h
    have h := h'; clear h'
    have hc18 := c_laws_szIntS (aa_0 := a11) (ca_0 := c12) hx17
    refine st_call (cx_call hc18 (ent_f hc18.fn rfl) hn0 (show Hp S0 σ0 _ ([Ch.ro 0 (Sl a11 x6 c12) x6] ++ [Ch.ro 0 (Sl a11 x6 c12) x6, Ch.ro 0 (Sl aa_0 a_0 ca_0) a_0]) from (H.sel' [0, 0, 1] rfl rfl))) wn ?_
    rintro _ σ19 ⟨_, ⟨rfl, rfl⟩, H, -⟩
    replace H : Hp S0 σ0 σ19 [Ch.ro 0 (Sl a11 x6 c12) x6, Ch.ro 0 (Sl aa_0 a_0 ca_0) a_0] := H
    refine st (v := (I r16)) (rv_assign rfl) ?_
    refine w_end ?_
    refine q_then ?_
    refine c_seq ?_
    refine rg ?_
    refine st (v := (I r16)) (rv_move rfl) ?_
    refine st (v := (B (decide (r16 < 0)))) (rv_lss (a := r16) (b := 0) rfl rfl) ?_
    refine w_end ?_
    refine q_then ?_
    refine cd_cond (decide (r16 < 0)) rfl (fun hb20 => ?_) (fun hb20 => ?_)
    ·replace h := bif_t hb20 h
     refine c_seq ?_
     refine rg ?_
     refine st (v := (I (-1))) (rv_assign rfl) ?_
     refine w_end ?_
     refine q_then ?_
     refine c_ret ?_
     refine q_blk_r ?_
     refine q_then_r ?_
     refine q_then_r ?_
     refine q_blk_r ?_
     obtain rfl := Option.some.inj h
     obtain rfl := hres _ rfl
     exact .inr (⟨_, rfl, rfl, _, σ19, fr_join ⟨rfl, trivial⟩, rfl, H.sel' [] rfl rfl⟩)
    ·replace h := bif_f hb20 h
     refine c_skip ?_
     refine q_blk ?_
     refine q_then ?_
     refine rg ?_
     refine st (v := (I s3.2)) (rv_move rfl) ?_
     refine st (v := (I (w64 (s3.2 + 1)))) (rv_add (a := s3.2) (b := 1) rfl rfl) ?_
     refine st (v := (I (w64 (s3.2 + 1)))) (rv_assign rfl) ?_
     refine w_end ?_
     refine q_then ?_
     obtain rfl := Option.some.inj h
     exact ⟨_, rfl, _, σ19, fr_join ⟨rfl, rfl, rfl, trivial⟩, rfl, H.sel' [1] rfl rfl⟩
   ·replace h := bif_f hb5 h
    refine c_exit ?_
    refine q_then_x ?_
    refine q_then_x ?_
    refine q_blk_hit ?_
    obtain rfl := Option.some.inj h
    obtain rfl := hres _ rfl
    exact .inl ⟨_, rfl, rfl, _, σ4, fr_join ⟨rfl, trivial⟩, rfl, H.sel' [] rfl rfl⟩
  ·clear hj
   have h := h'
   clear h' H
   rintro e a w (⟨t21, rfl, rfl, ρ, σ22, rfl, rfl, H⟩ | ⟨t23, rfl, rfl, ρ, σ24, rfl, rfl, H⟩)
   ·replace h := selim_l h
    refine q_then ?_
    refine c_seq ?_
    refine rg ?_
    refine st (v := (I t21)) (rv_move rfl) ?_
    refine st (v := (I t21)) (rv_assign rfl) ?_
    refine w_end ?_
    refine q_then ?_
    refine c_ret ?_
    obtain rfl := Option.some.inj h
    exact fin_ret (v := (I t21)) (results_ok Try.results13 (res_tmp (v := (I t21)) rfl res_nil) rfl) ⟨rfl, rfl⟩ (H.sel' [] rfl rfl)
   ·replace h := selim_r h
    refine q_then_r ?_
    obtain rfl := Option.some.inj h
    exact fin_ret (v := (I t23)) (results_ok Try.results13 (res_tmp (v := (I t23)) rfl res_nil) rfl) ⟨rfl, rfl⟩ (H.sel' [] rfl rfl)

theorem c_spec_inRange {n_0 : Int} {low_1 : Int} {high_2 : Int}  {r : Bool} (h : M.spec_inRange n_0 low_1 high_2 = some r) :
    Cal2 Try.prog 47 [(I n_0), (I low_1), (I high_2)] [] (fun n0 v L => v = (B r) ∧ L = []) := by
 refine cal2 (n := 15) Try.func47 rfl rfl rfl rfl ?_
 intro S0 σ0 n0 hn0 H
 unfold M.spec_inRange at h
 refine c_seq ?_
 refine rg ?_
 refine st (v := (B false)) (rv_assign rfl) ?_
 refine w_end ?_
 refine q_then ?_
 refine c_seq ?_
 refine rg ?_
 refine st (v := (I low_1)) (rv_move rfl) ?_
 refine st (v := (I n_0)) (rv_move rfl) ?_
 refine st (v := (B (decide (low_1 ≤ n_0)))) (rv_leq (a := low_1) (b := n_0) rfl rfl) ?_
 refine st (v := (B (decide (low_1 ≤ n_0)))) (rv_move rfl) ?_
 rcases Bool.eq_false_or_eq_true (decide (low_1 ≤ n_0)) with hb1 | hb1
 ·replace h := bif_t hb1 h
  refine st_g (v := (I n_0)) (congrArg some hb1) (rv_move rfl) ?_
  refine st_g (v := (I high_2)) (congrArg some hb1) (rv_move rfl) ?_
  refine st_g (v := (B (decide (n_0 ≤ high_2)))) (congrArg some hb1) (rv_leq (a := n_0) (b := high_2) rfl rfl) ?_
  refine st (v := (B (decide (n_0 ≤ high_2)))) (rv_pick_t (congrArg B hb1) rfl) ?_
  refine st (v := (B (decide (n_0 ≤ high_2)))) (rv_assign rfl) ?_
  refine w_end ?_
  refine q_then ?_
  refine c_ret ?_
  obtain rfl := Option.some.inj h
  exact fin_ret (v := (B (decide (n_0 ≤ high_2)))) (results_ok Try.results47 (res_tmp (v := (B (decide (n_0 ≤ high_2)))) rfl res_nil) rfl) ⟨rfl, rfl⟩ (H.sel' [] rfl rfl)
 ·replace h := bif_f hb1 h
  refine st_skip (congrArg some hb1) ?_
  refine st_skip (congrArg some hb1) ?_
  refine st_skip (congrArg some hb1) ?_
  refine st (v := (B false)) (rv_pick_f (congrArg B hb1) rfl) ?_
  refine st (v := (B false)) (rv_assign rfl) ?_
  refine w_end ?_
  refine q_then ?_
  refine c_ret ?_
  obtain rfl := Option.some.inj h
  exact fin_ret (v := (B false)) (results_ok Try.results47 (res_tmp (v := (B false)) rfl res_nil) rfl) ⟨rfl, rfl⟩ (H.sel' [] rfl rfl)

theorem c_spec_allIn {list_0 : List Int} {low_1 : Int} {high_2 : Int} {alist_0 : Option Addr} {clist_0 : Nat} {r : Bool} (h : M.spec_allIn list_0 low_1 high_2 = some r) :
    Cal2 Try.prog 87 [(Sl alist_0 list_0 clist_0), (I low_1), (I high_2)] [Ch.ro 0 (Sl alist_0 list_0 clist_0) list_0] (fun n0 v L => v = (B r) ∧ L = []) := by
 refine cal2 (n := 22) Try.func87 rfl rfl rfl rfl ?_
 intro S0 σ0 n0 hn0 H
 unfold M.spec_allIn at h
 refine c_seq ?_
 refine rg ?_
 refine st (v := (B false)) (rv_assign rfl) ?_
 refine w_end ?_
 refine q_then ?_
 refine c_seq ?_
 refine c_seq ?_
 refine rg ?_
 refine st (v := (I 0)) (rv_assign rfl) ?_
 refine w_end ?_
 refine q_then ?_
 obtain ⟨o1, hj, h'⟩ := bind_some h
 clear h
 refine c_cut (fun e a w => (∃ t, o1 = (.inl t) ∧ e = .normal ∧ ∃ (ρ : Nat → Value) (σ : St), a = fr 22 (updL ρ []) ∧ w = σ.w ∧ Hp S0 σ0 σ []) ∨ (∃ t, o1 = (.inr t) ∧ e = .ret ∧ ∃ (ρ : Nat → Value) (σ : St), a = fr 22 (updL ρ [(6, (B t))]) ∧ w = σ.w ∧ Hp S0 σ0 σ [])) ?_ ?_
 ·clear h'
  rename _ = some o1 => h
  refine c_blk ?_
  refine wp_loopM _ h (fun s2 a w => ∃ (ρ : Nat → Value) (σ : St), a = fr 22 (updL ρ [(0, (Sl alist_0 list_0 clist_0)), (1, (I low_1)), (2, (I high_2)), (7, (I s2))]) ∧ w = σ.w ∧ Hp S0 σ0 σ [Ch.ro 0 (Sl alist_0 list_0 clist_0) list_0]) ⟨_, σ0, fr_join ⟨rfl, rfl, rfl, rfl, trivial⟩, rfl, H.sel' [0] rfl rfl⟩ ?_
  clear h H
  rintro s2 a w o ⟨ρ, σ3, rfl, rfl, H⟩ h hres
  refine c_seq ?_
  refine c_seq ?_
  refine rg ?_
  refine st (v := (I s2)) (rv_move rfl) ?_
  refine st (v := (Sl alist_0 list_0 clist_0)) (rv_move rfl) ?_
  refine st (v := (I (list_0.length : Int))) (rv_len Try.underlying24 rfl) ?_
  refine st (v := (B (decide (s2 < (list_0.length : Int))))) (rv_lss (a := s2) (b := (list_0.length : Int)) rfl rfl) ?_
  refine w_end ?_
  refine q_then ?_
  refine cd_cond (decide (s2 < (list_0.length : Int))) rfl (fun hb4 => ?_) (fun hb4 => ?_)
  ·replace h := bif_t hb4 h
   refine c_skip ?_
   refine q_then ?_
   refine c_seq ?_
   refine c_blk ?_
   refine c_seq ?_
   refine rg ?_
   refine st (v := (Sl alist_0 list_0 clist_0)) (rv_move rfl) ?_
   refine st (v := (I s2)) (rv_move rfl) ?_
   obtain ⟨x5, hx6, h'⟩ := bind_some h
   clear h
   have h := h'; clear h'
   obtain ⟨b8, o9, hi7, -⟩ := (H.ro 0 rfl).ix hx6
   refine st (v := (pt b8 o9)) (rv_ix Try.underlying24 ti3 rfl rfl hi7) ?_
   have hc10 := ((H.ro 0 rfl).at hx6 hi7).int
   refine st (v := (I x5)) (rv_load1 Try.underlying3 rfl rfl hc10) ?_
   refine st (v := (I low_1)) (rv_move rfl) ?_
   refine st (v := (I high_2)) (rv_move rfl) ?_
   obtain ⟨r11, hx12, h'⟩ := bind_some h
   clear h
   have h := h'; clear h'
   have hc13 := c_spec_inRange hx12
   refine st_call (cx_call hc13 (ent_f hc13.fn rfl) hn0 (show Hp S0 σ0 _ ([] ++ [Ch.ro 0 (Sl alist_0 list_0 clist_0) list_0]) from (H.sel' [0] rfl rfl))) wn ?_
   rintro _ σ14 ⟨_, ⟨rfl, rfl⟩, H, -⟩
   replace H : Hp S0 σ0 σ14 [Ch.ro 0 (Sl alist_0 list_0 clist_0) list_0] := H
   refine st (v := (B (!r11))) (rv_not rfl) ?_
   refine w_end ?_
   refine q_then ?_
   refine cd_cond (!r11) rfl (fun hb15 => ?_) (fun hb15 => ?_)
   ·replace h := bif_t hb15 h
    refine c_seq ?_
    refine rg ?_
    refine st (v := (B false)) (rv_assign rfl) ?_
    refine w_end ?_
    refine q_then ?_
    refine c_ret ?_
    refine q_blk_r ?_
    refine q_then_r ?_
    refine q_then_r ?_
    refine q_blk_r ?_
    obtain rfl := Option.some.inj h
    obtain rfl := hres _ rfl
    exact .inr (⟨_, rfl, rfl, _, σ14, fr_join ⟨rfl, trivial⟩, rfl, H.sel' [] rfl rfl⟩)
   ·replace h := bif_f hb15 h
    refine c_skip ?_
    refine q_blk ?_
    refine q_then ?_
    refine rg ?_
    refine st (v := (I s2)) (rv_move rfl) ?_
    refine st (v := (I (w64 (s2 + 1)))) (rv_add (a := s2) (b := 1) rfl rfl) ?_
    refine st (v := (I (w64 (s2 + 1)))) (rv_assign rfl) ?_
    refine w_end ?_
    refine q_then ?_
    obtain rfl := Option.some.inj h
    exact ⟨_, rfl, _, σ14, fr_join ⟨rfl, rfl, rfl, rfl, trivial⟩, rfl, H.sel' [0] rfl rfl⟩
  ·replace h := bif_f hb4 h
   refine c_exit ?_
   refine q_then_x ?_
   refine q_then_x ?_
   refine q_blk_hit ?_
   obtain rfl := Option.some.inj h
   obtain rfl := hres _ rfl
   exact .inl ⟨_, rfl, rfl, _, σ3, fr_join trivial, rfl, H.sel' [] rfl rfl⟩
 ·clear hj
  have h := h'
  clear h' H
  rintro e a w (⟨t16, rfl, rfl, ρ, σ17, rfl, rfl, H⟩ | ⟨t18, rfl, rfl, ρ, σ19, rfl, rfl, H⟩)
  ·replace h := selim_l h
   refine q_then ?_
   refine c_seq ?_
   refine rg ?_
   refine st (v := (B true)) (rv_assign rfl) ?_
   refine w_end ?_
   refine q_then ?_
   refine c_ret ?_
   obtain rfl := Option.some.inj h
   exact fin_ret (v := (B true)) (results_ok Try.results87 (res_tmp (v := (B true)) rfl res_nil) rfl) ⟨rfl, rfl⟩ (H.sel' [] rfl rfl)
  ·replace h := selim_r h
   refine q_then_r ?_
   obtain rfl := Option.some.inj h
   exact fin_ret (v := (B t18)) (results_ok Try.results87 (res_tmp (v := (B t18)) rfl res_nil) rfl) ⟨rfl, rfl⟩ (H.sel' [] rfl rfl)

theorem c_spec_isVector {v_0 : List Int} {av_0 : Option Addr} {cv_0 : Nat} {r : Bool} (h : M.spec_isVector v_0 = some r) :
    Cal2 Try.prog 48 [(Sl av_0 v_0 cv_0)] [Ch.ro 0 (Sl av_0 v_0 cv_0) v_0] (fun n0 v L => v = (B r) ∧ L = []) := by
 refine cal2 (n := 10) Try.func48 rfl rfl rfl rfl ?_
 intro S0 σ0 n0 hn0 H
 unfold M.spec_isVector at h
 refine c_seq ?_
 refine rg ?_
 refine st (v := (B false)) (rv_assign rfl) ?_
 refine w_end ?_
 refine q_then ?_
 refine c_seq ?_
 refine rg ?_
 refine st (v := (Sl av_0 v_0 cv_0)) (rv_move rfl) ?_
 refine st (v := (I (v_0.length : Int))) (rv_len Try.underlying24 rfl) ?_
 refine st (v := (B ((v_0.length : Int) == 4))) (rv_eql (a := (v_0.length : Int)) (b := 4) rfl rfl) ?_
 refine st (v := (B ((v_0.length : Int) == 4))) (rv_move rfl) ?_
 rcases Bool.eq_false_or_eq_true ((v_0.length : Int) == 4) with hb1 | hb1
 ·replace h := bif_t hb1 h
  refine st_g (v := (Sl av_0 v_0 cv_0)) (congrArg some hb1) (rv_move rfl) ?_
  obtain ⟨r2, hx3, h'⟩ := bind_some h
  clear h
  have h := h'; clear h'
  have hc4 := c_spec_allIn (alist_0 := av_0) (clist_0 := cv_0) hx3
  refine st_call (cx_call hc4 (ent_f hc4.fn rfl) hn0 (show Hp S0 σ0 _ ([Ch.ro 0 (Sl av_0 v_0 cv_0) v_0] ++ [Ch.ro 0 (Sl av_0 v_0 cv_0) v_0]) from (H.sel' [0, 0] rfl rfl))) (wanted_yes rfl (by exact (congrArg some hb1))) ?_
  rintro _ σ5 ⟨_, ⟨rfl, rfl⟩, H, -⟩
  replace H : Hp S0 σ0 σ5 [Ch.ro 0 (Sl av_0 v_0 cv_0) v_0] := H
  refine st (v := (B r2)) (rv_pick_t (congrArg B hb1) rfl) ?_
  refine st (v := (B r2)) (rv_assign rfl) ?_
  refine w_end ?_
  refine q_then ?_
  refine c_ret ?_
  obtain rfl := Option.some.inj h
  exact fin_ret (v := (B r2)) (results_ok Try.results48 (res_tmp (v := (B r2)) rfl res_nil) rfl) ⟨rfl, rfl⟩ (H.sel' [] rfl rfl)
 ·replace h := bif_f hb1 h
  refine st_skip (congrArg some hb1) ?_
  refine st_skip (congrArg some hb1) ?_
  refine st (v := (B false)) (rv_pick_f (congrArg B hb1) rfl) ?_
  refine st (v := (B false)) (rv_assign rfl) ?_
  refine w_end ?_
  refine q_then ?_
  refine c_ret ?_
  obtain rfl := Option.some.inj h
  exact fin_ret (v := (B false)) (results_ok Try.results48 (res_tmp (v := (B false)) rfl res_nil) rfl) ⟨rfl, rfl⟩ (H.sel' [] rfl rfl)

theorem c_spec_floorDiv {a_0 : Int} {b_1 : Int}  {r : Int} (h : M.spec_floorDiv a_0 b_1 = some r) :
    Cal2 Try.prog 52 [(I a_0), (I b_1)] [] (fun n0 v L => v = (I r) ∧ L = []) := by
 refine cal2 (n := 16) Try.func52 rfl rfl rfl rfl ?_
 intro S0 σ0 n0 hn0 H
 unfold M.spec_floorDiv at h
 refine c_seq ?_
 refine rg ?_
 refine st (v := (I 0)) (rv_assign rfl) ?_
 refine w_end ?_
 refine q_then ?_
 refine c_seq ?_
 refine rg ?_
 refine st (v := (I a_0)) (rv_move rfl) ?_
 refine st (v := (I b_1)) (rv_move rfl) ?_
 obtain ⟨q1, hx2, h'⟩ := bind_some h
 clear h
 have h := h'; clear h'
 refine st (v := (I q1)) (rv_quoG (a := a_0) (b := b_1) hx2 rfl rfl) ?_
 refine st (v := (I q1)) (rv_assign rfl) ?_
 refine w_end ?_
 refine q_then ?_
 refine c_seq ?_
 refine c_seq ?_
 refine rg ?_
 refine st (v := (I a_0)) (rv_move rfl) ?_
 refine st (v := (I b_1)) (rv_move rfl) ?_
 obtain ⟨q3, hx4, h'⟩ := bind_some h
 clear h
 have h := h'; clear h'
 refine st (v := (I q3)) (rv_remG (a := a_0) (b := b_1) hx4 rfl rfl) ?_
 refine st (v := (B (decide (q3 < 0)))) (rv_lss (a := q3) (b := 0) rfl rfl) ?_
 refine w_end ?_
 refine q_then ?_
 obtain ⟨o5, hj, h'⟩ := bind_some h
 clear h
 refine c_cut (fun e a w => e = .normal ∧ ∃ (ρ : Nat → Value) (σ : St), a = fr 16 (updL ρ [(5, (I o5))]) ∧ w = σ.w ∧ Hp S0 σ0 σ []) ?_ ?_
 ·clear h'
  rename _ = some o5 => h
  refine cd_cond (decide (q3 < 0)) rfl (fun hb6 => ?_) (fun hb6 => ?_)
  ·replace h := bif_t hb6 h
   refine rg ?_
   refine st (v := (I q1)) (rv_move rfl) ?_
   refine st (v := (I (w64 (q1 - 1)))) (rv_sub (a := q1) (b := 1) rfl rfl) ?_
   refine st (v := (I (w64 (q1 - 1)))) (rv_assign rfl) ?_
   refine w_end ?_
   obtain rfl := Option.some.inj h
   exact ⟨rfl, _, σ0, fr_join ⟨rfl, trivial⟩, rfl, H.sel' [] rfl rfl⟩
  ·replace h := bif_f hb6 h
   refine c_skip ?_
   obtain rfl := Option.some.inj h
   exact ⟨rfl, _, σ0, fr_join ⟨rfl, trivial⟩, rfl, H.sel' [] rfl rfl⟩
 ·clear hj
  have h := h'
  clear h' H
  rintro e a w ⟨rfl, ρ, σ7, rfl, rfl, H⟩
  refine q_then ?_
  refine c_seq ?_
  refine rg ?_
  refine st (v := (I o5)) (rv_move rfl) ?_
  refine st (v := (I o5)) (rv_assign rfl) ?_
  refine w_end ?_
  refine q_then ?_
  refine c_ret ?_
  obtain rfl := Option.some.inj h
  exact fin_ret (v := (I o5)) (results_ok Try.results52 (res_tmp (v := (I o5)) rfl res_nil) rfl) ⟨rfl, rfl⟩ (H.sel' [] rfl rfl)

theorem c_spec_mean {list_0 : List (List Int)} {alist_0 : Option Addr} {clist_0 : Nat} {r : (List Int)} (h : M.spec_mean list_0 = some r) :
    Cal2 Try.prog 49 [(Sl alist_0 list_0 clist_0)] [Ch.ro 0 (Sl alist_0 list_0 clist_0) list_0] (fun n0 v L => ∃ (az1 : Option Addr), ∃ (cz2 : Nat), v = (Sl az1 r cz2) ∧ L = [Ch.own n0 n0 (Sl az1 r cz2) r]) := by
 refine cal2 (n := 35) Try.func49 rfl rfl rfl rfl ?_
 intro S0 σ0 n0 hn0 H
 unfold M.spec_mean at h
 refine c_seq ?_
 refine rg ?_
 refine st (v := (.slice none 0 0)) (rv_assign rfl) ?_
 refine w_end ?_
 refine q_then ?_
 refine c_seq ?_
 refine rg ?_
 refine st_ex (ex_buildSlice (el := n0) (xs := ([] : List Int)) (ps := []) (cs := []) H hn0 Try.underlying24 ti3 rfl rfl (by kernel_rfl) (.nil) rfl) wn ?_
 rintro _ σ2 ⟨b1, rfl, H, -⟩
 refine st (v := (Sl (some ⟨b1, 0, none⟩) ([] : List Int) 0)) (rv_assign rfl) ?_
 refine w_end ?_
 refine q_then ?_
 refine c_seq ?_
 refine c_seq ?_
 refine rg ?_
 refine st (v := (I 0)) (rv_assign rfl) ?_
 refine w_end ?_
 refine q_then ?_
 obtain ⟨o3, hj, h'⟩ := bind_some h
 clear h
 refine c_cut (fun e a w => e = .normal ∧ ∃ (ρ : Nat → Value) (σ : St) (aj1 : Option Addr) (cj2 : Nat), a = fr 35 (updL ρ [(3, (Sl aj1 o3 cj2))]) ∧ w = σ.w ∧ Hp S0 σ0 σ [Ch.own n0 n0 (Sl aj1 o3 cj2) o3]) ?_ ?_
 ·clear h'
  rename _ = some o3 => h
  refine c_blk ?_
  refine wp_loopM _ h (fun s4 a w => ∃ (ρ : Nat → Value) (σ : St) (aj1 : Option Addr) (cj2 : Nat), a = fr 35 (updL ρ [(0, (Sl alist_0 list_0 clist_0)), (3, (Sl aj1 s4.1 cj2)), (4, (I s4.2))]) ∧ w = σ.w ∧ Hp S0 σ0 σ [Ch.ro 0 (Sl alist_0 list_0 clist_0) list_0, Ch.own n0 n0 (Sl aj1 s4.1 cj2) s4.1]) ⟨_, σ2, (some ⟨b1, 0, none⟩), 0, fr_join ⟨rfl, rfl, rfl, trivial⟩, rfl, H.sel' [1, 0] rfl rfl⟩ ?_
  clear h H
  rintro s4 a w o ⟨ρ, σ5, a6, c7, rfl, rfl, H⟩ h hres
  refine c_seq ?_
  refine c_seq ?_
  refine rg ?_
  refine st (v := (I s4.2)) (rv_move rfl) ?_
  refine st (v := (B (decide (s4.2 < 4)))) (rv_lss (a := s4.2) (b := 4) rfl rfl) ?_
  refine w_end ?_
  refine q_then ?_
  refine cd_cond (decide (s4.2 < 4)) rfl (fun hb8 => ?_) (fun hb8 => ?_)
  ·replace h := bif_t hb8 h
   refine c_skip ?_
   refine q_then ?_
   refine c_seq ?_
   refine c_blk ?_
   refine c_seq ?_
   refine rg ?_
   refine st (v := (I 0)) (rv_assign rfl) ?_
   refine w_end ?_
   refine q_then ?_
   refine c_seq ?_
   refine c_seq ?_
   refine rg ?_
   refine st (v := (I 0)) (rv_assign rfl) ?_
   refine w_end ?_
   refine q_then ?_
   obtain ⟨o9, hj, h'⟩ := bind_some h
   clear h
   refine c_cut (fun e a w => e = .normal ∧ ∃ (ρ : Nat → Value) (σ : St), a = fr 35 (updL ρ [(0, (Sl alist_0 list_0 clist_0)), (3, (Sl a6 s4.1 c7)), (4, (I s4.2)), (5, (I o9))]) ∧ w = σ.w ∧ Hp S0 σ0 σ [Ch.ro 0 (Sl alist_0 list_0 clist_0) list_0, Ch.own n0 n0 (Sl a6 s4.1 c7) s4.1]) ?_ ?_
   ·clear h'
    rename _ = some o9 => h
    refine c_blk ?_
    refine wp_loopM _ h (fun s10 a w => ∃ (ρ : Nat → Value) (σ : St), a = fr 35 (updL ρ [(0, (Sl alist_0 list_0 clist_0)), (3, (Sl a6 s4.1 c7)), (4, (I s4.2)), (5, (I s10.1)), (6, (I s10.2))]) ∧ w = σ.w ∧ Hp S0 σ0 σ [Ch.ro 0 (Sl alist_0 list_0 clist_0) list_0, Ch.own n0 n0 (Sl a6 s4.1 c7) s4.1]) ⟨_, σ5, fr_join ⟨rfl, rfl, rfl, rfl, rfl, trivial⟩, rfl, H.sel' [0, 1] rfl rfl⟩ ?_
    clear h H
    rintro s10 a w o ⟨ρ, σ11, rfl, rfl, H⟩ h hres
    refine c_seq ?_
    refine c_seq ?_
    refine rg ?_
    refine st (v := (I s10.2)) (rv_move rfl) ?_
    refine st (v := (Sl alist_0 list_0 clist_0)) (rv_move rfl) ?_
    refine st (v := (I (list_0.length : Int))) (rv_len Try.underlying22 rfl) ?_
    refine st (v := (B (decide (s10.2 < (list_0.length : Int))))) (rv_lss (a := s10.2) (b := (list_0.length : Int)) rfl rfl) ?_
    refine w_end ?_
    refine q_then ?_
    refine cd_cond (decide (s10.2 < (list_0.length : Int))) rfl (fun hb12 => ?_) (fun hb12 => ?_)
    ·replace h := bif_t hb12 h
     refine c_skip ?_
     refine q_then ?_
     refine c_seq ?_
     refine c_blk ?_
     refine rg ?_
     refine st (v := (I s10.1)) (rv_move rfl) ?_
     refine st (v := (Sl alist_0 list_0 clist_0)) (rv_move rfl) ?_
     refine st (v := (I s10.2)) (rv_move rfl) ?_
     obtain ⟨x13, hx14, h'⟩ := bind_some h
     clear h
     have h := h'; clear h'
     obtain ⟨b16, o17, hi15, -⟩ := (H.ro 0 rfl).ix hx14
     refine st (v := (pt b16 o17)) (rv_ix Try.underlying22 ti24 rfl rfl hi15) ?_
     obtain ⟨v21, hc22, hR20⟩ := ((H.ro 0 rfl).at hx14 hi15).slice
     obtain ⟨a18, c19, rfl⟩ := hR20.isSl
     replace H := H.add (d := Ch.ro 0 (Sl a18 x13 c19) x13) hR20 (fun _ h => h)
     clear hR20
     refine st (v := (Sl a18 x13 c19)) (rv_load1 Try.underlying24 rfl rfl hc22) ?_
     refine st (v := (I s4.2)) (rv_move rfl) ?_
     obtain ⟨x23, hx24, h'⟩ := bind_some h
     clear h
     have h := h'; clear h'
     obtain ⟨b26, o27, hi25, -⟩ := (H.ro 0 rfl).ix hx24
     refine st (v := (pt b26 o27)) (rv_ix Try.underlying24 ti3 rfl rfl hi25) ?_
     have hc28 := ((H.ro 0 rfl).at hx24 hi25).int
     refine st (v := (I x23)) (rv_load1 Try.underlying3 rfl rfl hc28) ?_
     refine st (v := (I (w64 (s10.1 + x23)))) (rv_add (a := s10.1) (b := x23) rfl rfl) ?_
     refine st (v := (I (w64 (s10.1 + x23)))) (rv_assign rfl) ?_
     refine w_end ?_
     refine q_blk ?_
     refine q_then ?_
     refine rg ?_
     refine st (v := (I s10.2)) (rv_move rfl) ?_
     refine st (v := (I (w64 (s10.2 + 1)))) (rv_add (a := s10.2) (b := 1) rfl rfl) ?_
     refine st (v := (I (w64 (s10.2 + 1)))) (rv_assign rfl) ?_
     refine w_end ?_
     refine q_then ?_
     obtain rfl := Option.some.inj h
     exact ⟨_, rfl, _, σ11, fr_join ⟨rfl, rfl, rfl, rfl, rfl, trivial⟩, rfl, H.sel' [1, 2] rfl rfl⟩
    ·replace h := bif_f hb12 h
     refine c_exit ?_
     refine q_then_x ?_
     refine q_then_x ?_
     refine q_blk_hit ?_
     obtain rfl := Option.some.inj h
     obtain rfl := hres _ rfl
     exact ⟨rfl, _, σ11, fr_join ⟨rfl, rfl, rfl, rfl, trivial⟩, rfl, H.sel' [0, 1] rfl rfl⟩
   ·clear hj
    have h := h'
    clear h' H
    rintro e a w ⟨rfl, ρ, σ29, rfl, rfl, H⟩
    refine q_then ?_
    refine rg ?_
    refine st (v := (Sl a6 s4.1 c7)) (rv_move rfl) ?_
    refine st (v := (I o9)) (rv_move rfl) ?_
    refine st (v := (Sl alist_0 list_0 clist_0)) (rv_move rfl) ?_
    refine st (v := (I (list_0.length : Int))) (rv_len Try.underlying22 rfl) ?_
    obtain ⟨r30, hx31, h'⟩ := bind_some h
    clear h
    have h := h'; clear h'
    have hc32 := c_spec_floorDiv hx31
    refine st_call (cx_call hc32 (ent_f hc32.fn rfl) hn0 (show Hp S0 σ0 _ ([] ++ [Ch.ro 0 (Sl alist_0 list_0 clist_0) list_0, Ch.own n0 n0 (Sl a6 s4.1 c7) s4.1]) from (H.sel' [0, 1] rfl rfl))) wn ?_
    rintro _ σ33 ⟨_, ⟨rfl, rfl⟩, H, -⟩
    replace H : Hp S0 σ0 σ33 [Ch.ro 0 (Sl alist_0 list_0 clist_0) list_0, Ch.own n0 n0 (Sl a6 s4.1 c7) s4.1] := H
    refine st_ex (ex_buildSlice (el := n0) (xs := ([r30] : List Int)) (ps := [(0, (I r30))]) (cs := [(I r30)]) H hn0 Try.underlying24 ti3 rfl rfl (by kernel_rfl) (.cons (c := [(I r30)]) rfl (.nil)) rfl) wn ?_
    rintro _ σ35 ⟨b34, rfl, H, -⟩
    obtain ⟨xs36, hx37, h'⟩ := bind_some h
    clear h
    have h := h'; clear h'
    refine st_ex (ex_append H (i := 2) rfl Try.underlying24 Try.underlying24 ti3 rfl rfl (by decide) (H.own 0 rfl).rd hx37 hn0 rfl rfl) wn ?_
    rintro _ σ40 ⟨a38, c39, rfl, H, -⟩
    refine st (v := (Sl a38 xs36 c39)) (rv_assign rfl) ?_
    refine w_end ?_
    refine q_blk ?_
    refine q_then ?_
    refine rg ?_
    refine st (v := (I s4.2)) (rv_move rfl) ?_
    refine st (v := (I (w64 (s4.2 + 1)))) (rv_add (a := s4.2) (b := 1) rfl rfl) ?_
    refine st (v := (I (w64 (s4.2 + 1)))) (rv_assign rfl) ?_
    refine w_end ?_
    refine q_then ?_
    obtain rfl := Option.some.inj h
    exact ⟨_, rfl, _, σ40, a38, c39, fr_join ⟨rfl, rfl, rfl, trivial⟩, rfl, H.sel' [2, 0] rfl rfl⟩
  ·replace h := bif_f hb8 h
   refine c_exit ?_
   refine q_then_x ?_
   refine q_then_x ?_
   refine q_blk_hit ?_
   obtain rfl := Option.some.inj h
   obtain rfl := hres _ rfl
   exact ⟨rfl, _, σ5, a6, c7, fr_join ⟨rfl, trivial⟩, rfl, H.sel' [1] rfl rfl⟩
 ·clear hj
  have h := h'
  clear h' H
  rintro e a w ⟨rfl, ρ, σ41, a42, c43, rfl, rfl, H⟩
  refine q_then ?_
  refine c_seq ?_
  refine rg ?_
  refine st (v := (Sl a42 o3 c43)) (rv_move rfl) ?_
  refine st (v := (Sl a42 o3 c43)) (rv_assign rfl) ?_
  refine w_end ?_
  refine q_then ?_
  refine c_ret ?_
  obtain rfl := Option.some.inj h
  exact fin_ret (v := (Sl a42 o3 c43)) (results_ok Try.results49 (res_tmp (v := (Sl a42 o3 c43)) rfl res_nil) rfl) ⟨a42, c43, rfl, rfl⟩ (H.sel' [0] rfl rfl)

theorem c_spec_MeanOf {list_0 : List (List Int)} {alist_0 : Option Addr} {clist_0 : Nat} {r : (List Int)} (h : M.spec_MeanOf list_0 = some r) :
    Cal2 Try.prog 14 [(Sl alist_0 list_0 clist_0)] [Ch.ro 0 (Sl alist_0 list_0 clist_0) list_0] (fun n0 v L => ∃ (az1 : Option Addr), ∃ (cz2 : Nat), v = (Sl az1 r cz2) ∧ L = [Ch.own n0 n0 (Sl az1 r cz2) r]) := by
 refine cal2 (n := 22) Try.func14 rfl rfl rfl rfl ?_
 intro S0 σ0 n0 hn0 H
 unfold M.spec_MeanOf at h
 refine c_seq ?_
 refine rg ?_
 refine st (v := (.slice none 0 0)) (rv_assign rfl) ?_
 refine w_end ?_
 refine q_then ?_
 refine c_seq ?_
 refine c_seq ?_
 refine rg ?_
 refine st (v := (Sl alist_0 list_0 clist_0)) (rv_move rfl) ?_
 refine st (v := (I (list_0.length : Int))) (rv_len Try.underlying22 rfl) ?_
 obtain ⟨r1, hx2, h'⟩ := bind_some h
 clear h
 have h := h'; clear h'
 have hc3 := c_spec_inRange hx2
 refine st_call (cx_call hc3 (ent_f hc3.fn rfl) hn0 (show Hp S0 σ0 _ ([] ++ [Ch.ro 0 (Sl alist_0 list_0 clist_0) list_0]) from (H.sel' [0] rfl rfl))) wn ?_
 rintro _ σ4 ⟨_, ⟨rfl, rfl⟩, H, -⟩
 replace H : Hp S0 σ0 σ4 [Ch.ro 0 (Sl alist_0 list_0 clist_0) list_0] := H
 refine st (v := (B (!r1))) (rv_not rfl) ?_
 refine w_end ?_
 refine q_then ?_
 refine cd_cond (!r1) rfl (fun hb5 => ?_) (fun hb5 => ?_)
 ·replace h := bif_t hb5 h
  refine c_seq ?_
  refine rg ?_
  refine st (v := (.slice none 0 0)) (rv_assign rfl) ?_
  refine w_end ?_
  refine q_then ?_
  refine c_ret ?_
  refine q_then_r ?_
  replace H := H.nilOwn Int n0 n0
  obtain rfl := Option.some.inj h
  exact fin_ret (v := (.slice none 0 0)) (results_ok Try.results14 (res_tmp (v := (.slice none 0 0)) rfl res_nil) rfl) ⟨none, 0, rfl, rfl⟩ (H.sel' [0] rfl rfl)
 ·replace h := bif_f hb5 h
  refine c_skip ?_
  refine q_then ?_
  refine c_seq ?_
  refine c_seq ?_
  refine rg ?_
  refine st (v := (I 0)) (rv_assign rfl) ?_
  refine w_end ?_
  refine q_then ?_
  obtain ⟨o6, hj, h'⟩ := bind_some h
  clear h
  refine c_cut (fun e a w => (∃ t, o6 = (.inl t) ∧ e = .normal ∧ ∃ (ρ : Nat → Value) (σ : St), a = fr 22 (updL ρ [(0, (Sl alist_0 list_0 clist_0))]) ∧ w = σ.w ∧ Hp S0 σ0 σ [Ch.ro 0 (Sl alist_0 list_0 clist_0) list_0]) ∨ (∃ t, o6 = (.inr t) ∧ e = .ret ∧ ∃ (ρ : Nat → Value) (σ : St) (aj1 : Option Addr) (cj2 : Nat), a = fr 22 (updL ρ [(2, (Sl aj1 t cj2))]) ∧ w = σ.w ∧ Hp S0 σ0 σ [Ch.own n0 n0 (Sl aj1 t cj2) t])) ?_ ?_
  ·clear h'
   rename _ = some o6 => h
   refine c_blk ?_
   refine wp_loopM _ h (fun s7 a w => ∃ (ρ : Nat → Value) (σ : St), a = fr 22 (updL ρ [(0, (Sl alist_0 list_0 clist_0)), (3, (I s7))]) ∧ w = σ.w ∧ Hp S0 σ0 σ [Ch.ro 0 (Sl alist_0 list_0 clist_0) list_0]) ⟨_, σ4, fr_join ⟨rfl, rfl, trivial⟩, rfl, H.sel' [0] rfl rfl⟩ ?_
   clear h H
   rintro s7 a w o ⟨ρ, σ8, rfl, rfl, H⟩ h hres
   refine c_seq ?_
   refine c_seq ?_
   refine rg ?_
   refine st (v := (I s7)) (rv_move rfl) ?_
   refine st (v := (Sl alist_0 list_0 clist_0)) (rv_move rfl) ?_
   refine st (v := (I (list_0.length : Int))) (rv_len Try.underlying22 rfl) ?_
   refine st (v := (B (decide (s7 < (list_0.length : Int))))) (rv_lss (a := s7) (b := (list_0.length : Int)) rfl rfl) ?_
   refine w_end ?_
   refine q_then ?_
   refine cd_cond (decide (s7 < (list_0.length : Int))) rfl (fun hb9 => ?_) (fun hb9 => ?_)
   ·replace h := bif_t hb9 h
    refine c_skip ?_
    refine q_then ?_
    refine c_seq ?_
    refine c_blk ?_
    refine c_seq ?_
    refine rg ?_
    refine st (v := (Sl alist_0 list_0 clist_0)) (rv_move rfl) ?_
    refine st (v := (I s7)) (rv_move rfl) ?_
    obtain ⟨x10, hx11, h'⟩ := bind_some h
    clear h
    have h := h'; clear h'
    obtain ⟨b13, o14, hi12, -⟩ := (H.ro 0 rfl).ix hx11
    refine st (v := (pt b13 o14)) (rv_ix Try.underlying22 ti24 rfl rfl hi12) ?_
    obtain ⟨v18, hc19, hR17⟩ := ((H.ro 0 rfl).at hx11 hi12).slice
    obtain ⟨a15, c16, rfl⟩ := hR17.isSl
    replace H := H.add (d := Ch.ro 0 (Sl a15 x10 c16) x10) hR17 (fun _ h => h)
    clear hR17
    refine st (v := (Sl a15 x10 c16)) (rv_load1 Try.underlying24 rfl rfl hc19) ?_
    obtain ⟨r20, hx21, h'⟩ := bind_some h
    clear h
    have h := h'; clear h'
    have hc22 := c_spec_isVector (av_0 := a15) (cv_0 := c16) hx21
    refine st_call (cx_call hc22 (ent_f hc22.fn rfl) hn0 (show Hp S0 σ0 _ ([Ch.ro 0 (Sl a15 x10 c16) x10] ++ [Ch.ro 0 (Sl a15 x10 c16) x10, Ch.ro 0 (Sl alist_0 list_0 clist_0) list_0]) from (H.sel' [0, 0, 1] rfl rfl))) wn ?_
    rintro _ σ23 ⟨_, ⟨rfl, rfl⟩, H, -⟩
    replace H : Hp S0 σ0 σ23 [Ch.ro 0 (Sl a15 x10 c16) x10, Ch.ro 0 (Sl alist_0 list_0 clist_0) list_0] := H
    refine st (v := (B (!r20))) (rv_not rfl) ?_
    refine w_end ?_
    refine q_then ?_
    refine cd_cond (!r20) rfl (fun hb24 => ?_) (fun hb24 => ?_)
    ·replace h := bif_t hb24 h
     refine c_seq ?_
     refine rg ?_
     refine st (v := (.slice none 0 0)) (rv_assign rfl) ?_
     refine w_end ?_
     refine q_then ?_
     refine c_ret ?_
     refine q_blk_r ?_
     refine q_then_r ?_
     refine q_then_r ?_
     refine q_blk_r ?_
     obtain rfl := Option.some.inj h
     obtain rfl := hres _ rfl
     replace H := H.nilOwn Int n0 n0
     exact .inr (⟨_, rfl, rfl, _, σ23, none, 0, fr_join ⟨rfl, trivial⟩, rfl, H.sel' [0] rfl rfl⟩)
    ·replace h := bif_f hb24 h
     refine c_skip ?_
     refine q_blk ?_
     refine q_then ?_
     refine rg ?_
     refine st (v := (I s7)) (rv_move rfl) ?_
     refine st (v := (I (w64 (s7 + 1)))) (rv_add (a := s7) (b := 1) rfl rfl) ?_
     refine st (v := (I (w64 (s7 + 1)))) (rv_assign rfl) ?_
     refine w_end ?_
     refine q_then ?_
     obtain rfl := Option.some.inj h
     exact ⟨_, rfl, _, σ23, fr_join ⟨rfl, rfl, trivial⟩, rfl, H.sel' [1] rfl rfl⟩
   ·replace h := bif_f hb9 h
    refine c_exit ?_
    refine q_then_x ?_
    refine q_then_x ?_
    refine q_blk_hit ?_
    obtain rfl := Option.some.inj h
    obtain rfl := hres _ rfl
    exact .inl ⟨_, rfl, rfl, _, σ8, fr_join ⟨rfl, trivial⟩, rfl, H.sel' [0] rfl rfl⟩
  ·clear hj
   have h := h'
   clear h' H
   rintro e a w (⟨t25, rfl, rfl, ρ, σ26, rfl, rfl, H⟩ | ⟨t33, rfl, rfl, ρ, σ34, a35, c36, rfl, rfl, H⟩)
   ·replace h := selim_l h
    refine q_then ?_
    refine c_seq ?_
    refine rg ?_
    refine st (v := (Sl alist_0 list_0 clist_0)) (rv_move rfl) ?_
    obtain ⟨r27, hx28, h'⟩ := bind_some h
    clear h
    have h := h'; clear h'
    have hc29 := c_spec_mean (alist_0 := alist_0) (clist_0 := clist_0) hx28
    refine st_call (cx_call hc29 (ent_f hc29.fn rfl) hn0 (show Hp S0 σ0 _ ([Ch.ro 0 (Sl alist_0 list_0 clist_0) list_0] ++ [Ch.ro 0 (Sl alist_0 list_0 clist_0) list_0]) from (H.sel' [0, 0] rfl rfl))) wn ?_
    rintro _ σ32 ⟨_, ⟨a30, c31, rfl, rfl⟩, H, -⟩
    replace H : Hp S0 σ0 σ32 [Ch.own n0 n0 (Sl a30 r27 c31) r27, Ch.ro 0 (Sl alist_0 list_0 clist_0) list_0] := H
    refine st (v := (Sl a30 r27 c31)) (rv_assign rfl) ?_
    refine w_end ?_
    refine q_then ?_
    refine c_ret ?_
    obtain rfl := Option.some.inj h
    exact fin_ret (v := (Sl a30 r27 c31)) (results_ok Try.results14 (res_tmp (v := (Sl a30 r27 c31)) rfl res_nil) rfl) ⟨a30, c31, rfl, rfl⟩ (H.sel' [0] rfl rfl)
   ·replace h := selim_r h
    refine q_then_r ?_
    obtain rfl := Option.some.inj h
    exact fin_ret (v := (Sl a35 t33 c36)) (results_ok Try.results14 (res_tmp (v := (Sl a35 t33 c36)) rfl res_nil) rfl) ⟨a35, c36, rfl, rfl⟩ (H.sel' [0] rfl rfl)

theorem c_laws_toIntS {a_0 : List Int} {aa_0 : Option Addr} {ca_0 : Nat} {r : (List Int)} (h : M.laws_toIntS a_0 = some r) :
    Cal2 Try.prog 23 [(Sl aa_0 a_0 ca_0)] [Ch.ro 0 (Sl aa_0 a_0 ca_0) a_0] (fun n0 v L => ∃ (az1 : Option Addr), ∃ (cz2 : Nat), v = (Sl az1 r cz2) ∧ L = [Ch.own n0 n0 (Sl az1 r cz2) r] ∧ cz2 = r.length) := by
 refine cal2 (n := 22) Try.func23 rfl rfl rfl rfl ?_
 intro S0 σ0 n0 hn0 H
 unfold M.laws_toIntS at h
 refine c_seq ?_
 refine rg ?_
 refine st (v := (.slice none 0 0)) (rv_assign rfl) ?_
 refine w_end ?_
 refine q_then ?_
 refine c_seq ?_
 refine rg ?_
 refine st (v := (Sl aa_0 a_0 ca_0)) (rv_move rfl) ?_
 refine st (v := (I (a_0.length : Int))) (rv_len Try.underlying24 rfl) ?_
 obtain ⟨xs1, hx2, h'⟩ := bind_some h
 clear h
 have h := h'; clear h'
 refine st_ex (ex_make (el := n0) (z0 := (0 : Int)) (zs := [(I 0)]) H hn0 Try.underlying24 ti3 rfl rfl rfl (by decide) hx2 rfl rfl) wn ?_
 rintro _ σ6 ⟨b3, c4, rfl, ht5, H, -⟩
 replace ht5 := ht5.trans (gmake_len hx2).symm
 refine st (v := (Sl (some ⟨b3, 0, none⟩) xs1 c4)) (rv_assign rfl) ?_
 refine w_end ?_
 refine q_then ?_
 refine c_seq ?_
 refine c_seq ?_
 refine rg ?_
 refine st (v := (I 0)) (rv_assign rfl) ?_
 refine w_end ?_
 refine q_then ?_
 obtain ⟨o7, hj, h'⟩ := bind_some h
 clear h
 refine c_cut (fun e a w => e = .normal ∧ ∃ (ρ : Nat → Value) (σ : St), a = fr 22 (updL ρ [(3, (Sl (some ⟨b3, 0, none⟩) o7 c4))]) ∧ w = σ.w ∧ Hp S0 σ0 σ [Ch.own n0 n0 (Sl (some ⟨b3, 0, none⟩) o7 c4) o7] ∧ c4 = o7.length ∧ o7.length = xs1.length) ?_ ?_
 ·clear h'
  rename _ = some o7 => h
  refine c_blk ?_
  refine wp_loopM _ h (fun s8 a w => ∃ (ρ : Nat → Value) (σ : St), a = fr 22 (updL ρ [(0, (Sl aa_0 a_0 ca_0)), (3, (Sl (some ⟨b3, 0, none⟩) s8.1 c4)), (4, (I s8.2))]) ∧ w = σ.w ∧ Hp S0 σ0 σ [Ch.ro 0 (Sl aa_0 a_0 ca_0) a_0, Ch.own n0 n0 (Sl (some ⟨b3, 0, none⟩) s8.1 c4) s8.1] ∧ c4 = s8.1.length ∧ s8.1.length = xs1.length) ⟨_, σ6, fr_join ⟨rfl, rfl, rfl, trivial⟩, rfl, H.sel' [1, 0] rfl rfl, ht5, rfl⟩ ?_
  clear h H
  rintro s8 a w o ⟨ρ, σ9, rfl, rfl, H, ht10, hn11⟩ h hres
  refine c_seq ?_
  refine c_seq ?_
  refine rg ?_
  refine st (v := (I s8.2)) (rv_move rfl) ?_
  refine st (v := (Sl aa_0 a_0 ca_0)) (rv_move rfl) ?_
  refine st (v := (I (a_0.length : Int))) (rv_len Try.underlying24 rfl) ?_
  refine st (v := (B (decide (s8.2 < (a_0.length : Int))))) (rv_lss (a := s8.2) (b := (a_0.length : Int)) rfl rfl) ?_
  refine w_end ?_
  refine q_then ?_
  refine cd_cond (decide (s8.2 < (a_0.length : Int))) rfl (fun hb12 => ?_) (fun hb12 => ?_)
  ·replace h := bif_t hb12 h
   refine c_skip ?_
   refine q_then ?_
   refine c_seq ?_
   refine c_blk ?_
   refine rg ?_
   refine st (v := (Sl (some ⟨b3, 0, none⟩) s8.1 c4)) (rv_move rfl) ?_
   refine st (v := (I s8.2)) (rv_move rfl) ?_
   refine st (v := (Sl aa_0 a_0 ca_0)) (rv_move rfl) ?_
   refine st (v := (I s8.2)) (rv_move rfl) ?_
   obtain ⟨x13, hx14, h'⟩ := bind_some h
   clear h
   have h := h'; clear h'
   obtain ⟨b16, o17, hi15, -⟩ := (H.ro 0 rfl).ix hx14
   refine st (v := (pt b16 o17)) (rv_ix Try.underlying24 ti3 rfl rfl hi15) ?_
   have hc18 := ((H.ro 0 rfl).at hx14 hi15).int
   refine st (v := (I x13)) (rv_load1 Try.underlying3 rfl rfl hc18) ?_
   obtain ⟨x19, hx20, h'⟩ := bind_some h
   clear h
   have h := h'; clear h'
   obtain ⟨b22, o23, hi21, -⟩ := (H.own 1 rfl).ix hx20
   refine st (v := (pt b22 o23)) (rv_ix Try.underlying24 ti3 rfl rfl hi21) ?_
   refine st_exS (ex_store_own (e' := x13) (vs := [(I x13)]) (k := 0) H (i := 1) rfl ti3 hx20 hi21 rfl rfl rfl rfl rfl (Nat.le_of_ble_eq_true rfl) (by simp [plain]) (by rintro _ rfl; exact rfl)) wn ?_
   rintro σ24 ⟨H, -⟩
   have hsl : (Sl (some ⟨b3, 0, none⟩) s8.1 c4) = (Sl (some ⟨b3, 0, none⟩) (s8.1.set s8.2.toNat x13) c4) := sl_len List.length_set.symm
   rw [hsl]; rw [hsl] at H; clear hsl
   refine w_end ?_
   refine q_blk ?_
   refine q_then ?_
   refine rg ?_
   refine st (v := (I s8.2)) (rv_move rfl) ?_
   refine st (v := (I (w64 (s8.2 + 1)))) (rv_add (a := s8.2) (b := 1) rfl rfl) ?_
   refine st (v := (I (w64 (s8.2 + 1)))) (rv_assign rfl) ?_
   refine w_end ?_
   refine q_then ?_
   obtain rfl := Option.some.inj h
   exact ⟨_, rfl, _, σ24, fr_join ⟨rfl, rfl, rfl, trivial⟩, rfl, H.sel' [1, 0] rfl rfl, (ht10.trans List.length_set.symm), (List.length_set.trans hn11)⟩
  ·replace h := bif_f hb12 h
   refine c_exit ?_
   refine q_then_x ?_
   refine q_then_x ?_
   refine q_blk_hit ?_
   obtain rfl := Option.some.inj h
   obtain rfl := hres _ rfl
   exact ⟨rfl, _, σ9, fr_join ⟨rfl, trivial⟩, rfl, H.sel' [1] rfl rfl, ht10, hn11⟩
 ·clear hj
  have h := h'
  clear h' H
  rintro e a w ⟨rfl, ρ, σ25, rfl, rfl, H, ht26, hn27⟩
  refine q_then ?_
  refine c_seq ?_
  refine rg ?_
  refine st (v := (Sl (some ⟨b3, 0, none⟩) o7 c4)) (rv_move rfl) ?_
  refine st (v := (Sl (some ⟨b3, 0, none⟩) o7 c4)) (rv_assign rfl) ?_
  refine w_end ?_
  refine q_then ?_
  refine c_ret ?_
  obtain rfl := Option.some.inj h
  exact fin_ret (v := (Sl (some ⟨b3, 0, none⟩) o7 c4)) (results_ok Try.results23 (res_tmp (v := (Sl (some ⟨b3, 0, none⟩) o7 c4)) rfl res_nil) rfl) ⟨(some ⟨b3, 0, none⟩), c4, rfl, rfl, ht26⟩ (H.sel' [0] rfl rfl)

theorem c_laws_toIntSS {a_0 : List (List Int)} {aa_0 : Option Addr} {ca_0 : Nat} {r : (List (List Int))} (h : M.dIntSS a_0 = some r) :
    Cal2 Try.prog 15 [(Sl aa_0 a_0 ca_0)] [Ch.ro 0 (Sl aa_0 a_0 ca_0) a_0] (fun n0 v L => ∃ (az1 : Option Addr), ∃ (cz2 : Nat), ∃ (K : List Ch), v = (Sl az1 r cz2) ∧ L = [Ch.big K] ∧ Dp n0 (Sl az1 r cz2) r K) := by
 obtain ⟨hn, hx, rfl⟩ := dIntSS_some h
 clear h
 refine cal2 (n := 23) Try.func15 rfl rfl rfl rfl ?_
 intro S0 σ0 n0 hn0 H
 refine c_seq ?_
 refine rg ?_
 refine st (v := (.slice none 0 0)) (rv_assign rfl) ?_
 refine w_end ?_
 refine q_then ?_
 refine c_seq ?_
 refine rg ?_
 refine st (v := (Sl aa_0 r ca_0)) (rv_move rfl) ?_
 refine st (v := (I (r.length : Int))) (rv_len Try.underlying22 rfl) ?_
 refine st_ex (ex_make (el := n0) (z0 := (.slice none 0 0 : Value)) (zs := [(.slice none 0 0)]) H hn0 Try.underlying22 ti24 rfl rfl (⟨rfl, rfl⟩) (by decide) (gmake_nat _ _ hn) rfl rfl) (wanted_none _ rfl _) ?_
 rintro _ σ6 ⟨b3, c4, rfl, ht5, H, -⟩
 rw [show (Sl (some ⟨b3, 0, none⟩) (List.replicate r.length (.slice none 0 0 : Value)) c4) = (Sl (some ⟨b3, 0, none⟩) r c4) from sl_len (by simp)] at H ⊢
 refine st (v := (Sl (some ⟨b3, 0, none⟩) r c4)) (rv_assign rfl) ?_
 refine w_end ?_
 refine q_then ?_
 refine c_seq ?_
 refine c_seq ?_
 refine rg ?_
 refine st (v := (I 0)) (rv_assign rfl) ?_
 refine w_end ?_
 refine q_then ?_
 refine c_cut (fun e a w => e = .normal ∧ ∃ (ρ : Nat → Value) (σ : St) (ps : List ((List Int) × Value)), a = fr 23 (updL ρ [(3, (Sl (some ⟨b3, 0, none⟩) r c4))]) ∧ w = σ.w ∧ ps.map (·.1) = r ∧ Hp S0 σ0 σ [Ch.own n0 n0 (Sl (some ⟨b3, 0, none⟩) r c4) (ps.map dsh), Ch.big (ps.map (dow n0))]) ?_ ?_
 ·refine c_blk ?_
  refine wp_loop_ghost (fun k a w => ∃ (i : Nat) (ρ : Nat → Value) (σ : St) (ps : List ((List Int) × Value)), i + k = r.length ∧ ps.length = i ∧ ps.map (·.1) = r.take i ∧ a = fr 23 (updL ρ [(0, (Sl aa_0 r ca_0)), (3, (Sl (some ⟨b3, 0, none⟩) r c4)), (4, (I (i : Int)))]) ∧ w = σ.w ∧ Hp S0 σ0 σ [Ch.own n0 n0 (Sl (some ⟨b3, 0, none⟩) r c4) (ps.map dsh ++ List.replicate k (.slice none 0 0 : Value)), Ch.ro 0 (Sl aa_0 r ca_0) r, Ch.big (ps.map (dow n0))]) r.length ⟨0, _, σ6, [], by omega, rfl, rfl, fr_join ⟨rfl, rfl, rfl, trivial⟩, rfl, H.bigNil.sel' [1, 2, 0] rfl rfl⟩ ?_
  clear H
  rintro k _ _ ⟨i, ρ, σ9, ps, hik, hps, hpr, rfl, rfl, H⟩
  refine c_seq ?_
  refine c_seq ?_
  refine rg ?_
  refine st (v := (I (i : Int))) (rv_move rfl) ?_
  refine st (v := (Sl aa_0 r ca_0)) (rv_move rfl) ?_
  refine st (v := (I (r.length : Int))) (rv_len Try.underlying22 rfl) ?_
  refine st (v := (B (decide ((i : Int) < (r.length : Int))))) (rv_lss (a := (i : Int)) (b := (r.length : Int)) rfl rfl) ?_
  refine w_end ?_
  refine q_then ?_
  refine cd_cond (decide ((i : Int) < (r.length : Int))) rfl (fun hb => ?_) (fun hb => ?_)
  ·have hlt : i < r.length := by have := of_decide_eq_true hb; omega
   obtain ⟨m, rfl⟩ : ∃ m, k = m + 1 := ⟨k - 1, by omega⟩
   refine c_skip ?_
   refine q_then ?_
   refine c_seq ?_
   refine c_blk ?_
   refine rg ?_
   refine st (v := (Sl (some ⟨b3, 0, none⟩) r c4)) (rv_move rfl) ?_
   refine st (v := (I (i : Int))) (rv_move rfl) ?_
   refine st (v := (Sl aa_0 r ca_0)) (rv_move rfl) ?_
   refine st (v := (I (i : Int))) (rv_move rfl) ?_
   have hx14 : gidx r (i : Int) = some r[i] := gidx_at hlt
   have hx24 := hx _ (List.getElem_mem hlt)
   have hpt : (ps.map (·.1)) ++ [r[i]] = r.take (i + 1) := by rw [hpr, List.take_succ_eq_append_getElem hlt]
   generalize r[i] = x13 at hx14 hx24 hpt
   obtain ⟨b16, o17, hi15, -⟩ := (H.ro 1 rfl).ix hx14
   refine st (v := (pt b16 o17)) (rv_ix Try.underlying22 ti24 rfl rfl hi15) ?_
   obtain ⟨_, ⟨_, rfl, hR22⟩, hl18, hc19⟩ := ((H.ro 1 rfl).at hx14 hi15).cells
   obtain ⟨a20, c21, rfl⟩ := hR22.isSl
   replace H := H.add (d := Ch.ro 0 (Sl a20 x13 c21) x13) hR22 (fun _ h => h)
   clear hR22
   have hc20 := hc19 0 (by simp)
   refine st (v := (Sl a20 x13 c21)) (rv_load1 Try.underlying24 rfl rfl hc20) ?_
   have hc25 := c_laws_toIntS (aa_0 := a20) (ca_0 := c21) hx24
   refine st_call (cx_call hc25 (ent_f hc25.fn rfl) hn0 (H.sel' [0, 1, 2, 3] rfl rfl : Hp S0 σ0 _ ([_] ++ _))) (wanted_none _ rfl _) ?_
   rintro _ σ29 ⟨_, ⟨a26, c27, rfl, rfl, ht28⟩, H, -⟩
   replace H : Hp S0 σ0 σ29 [Ch.own n0 n0 (Sl a26 x13 c27) x13, Ch.own n0 n0 (Sl (some ⟨b3, 0, none⟩) r c4) (ps.map dsh ++ List.replicate (m + 1) (.slice none 0 0 : Value)), Ch.ro 0 (Sl aa_0 r ca_0) r, Ch.big (ps.map (dow n0))] := H
   have hx31 := gidx_step (ps.map dsh) (.slice none 0 0 : Value) m (i : Int) (by simp [hps])
   obtain ⟨b33, o34, hi32, -⟩ := (H.own 1 rfl).ix hx31
   refine st (v := (pt b33 o34)) (rv_ix Try.underlying22 ti24 rfl rfl hi32) ?_
   refine st_exS (ex_store_own (e' := (Sl a26 x13 c27 : Value)) (vs := [(Sl a26 x13 c27)]) (k := 0) H (i := 1) rfl ti24 hx31 hi32 rfl rfl rfl rfl rfl (Nat.le_of_ble_eq_true rfl) (by simp [plain]) (by rintro _ ⟨rfl, -⟩; exact ⟨rfl, rfl⟩)) (wanted_none _ rfl _) ?_
   rintro σ40 ⟨H, -⟩
   refine w_end ?_
   refine q_blk ?_
   refine q_then ?_
   refine rg ?_
   refine st (v := (I (i : Int))) (rv_move rfl) ?_
   refine st (v := (I (w64 ((i : Int) + 1)))) (rv_add (a := (i : Int)) (b := 1) rfl rfl) ?_
   refine st (v := (I (w64 ((i : Int) + 1)))) (rv_assign rfl) ?_
   refine w_end ?_
   have e1 : w64 ((i : Int) + 1) = ((i + 1 : Nat) : Int) := w64_id (by omega) (by omega)
   rw [e1]
   refine q_then ?_
   have hset := set_step (ps.map dsh) (.slice none 0 0 : Value) (Sl a26 x13 c27) m
   rw [List.length_map, hps] at hset
   refine ⟨m, by omega, i + 1, _, σ40, ps ++ [(x13, (Sl a26 x13 c27))], by omega, by simp [hps], by simpa using hpt, fr_join ⟨rfl, rfl, rfl, trivial⟩, rfl, ?_⟩
   replace H := Hp.bigSnoc (H.sel' [1, 3, 0, 2] rfl rfl)
   replace H := H.sel' [1, 2, 0] rfl rfl
   simp only [Int.toNat_natCast, hset] at H
   rw [List.map_append, List.map_append]
   exact H
  ·have hlt : ¬ i < r.length := by have := of_decide_eq_false hb; omega
   obtain rfl : k = 0 := by omega
   obtain rfl : i = r.length := by omega
   refine c_exit ?_
   refine q_then_x ?_
   refine q_then_x ?_
   refine q_blk_hit ?_
   rw [List.take_length] at hpr
   simp only [List.replicate_zero, List.append_nil] at H
   exact ⟨rfl, _, σ9, ps, fr_join ⟨rfl, trivial⟩, rfl, hpr, H.sel' [0, 2] rfl rfl⟩
 ·clear H
  rintro e a w ⟨rfl, ρ, σ41, ps, rfl, rfl, hps, H⟩
  refine q_then ?_
  refine c_seq ?_
  refine rg ?_
  refine st (v := (Sl (some ⟨b3, 0, none⟩) r c4)) (rv_move rfl) ?_
  refine st (v := (Sl (some ⟨b3, 0, none⟩) r c4)) (rv_assign rfl) ?_
  refine w_end ?_
  refine q_then ?_
  refine c_ret ?_
  exact fin_ret (v := (Sl (some ⟨b3, 0, none⟩) r c4)) (results_ok Try.results15 (res_tmp (v := (Sl (some ⟨b3, 0, none⟩) r c4)) rfl res_nil) rfl) ⟨(some ⟨b3, 0, none⟩), c4, _, rfl, rfl, ⟨ps, hps.symm, rfl⟩⟩ H.bigCons


theorem c_impl_validCoords {coords_0 : List Int} {acoords_0 : Option Addr} {ccoords_0 : Nat} {r : Bool} (h : M.impl_validCoords coords_0 = some r) :
    Cal2 Try.prog 88 [(Sl acoords_0 coords_0 ccoords_0)] [Ch.ro 0 (Sl acoords_0 coords_0 ccoords_0) coords_0] (fun n0 v L => v = (B r) ∧ L = []) := by
 refine cal2 (n := 18) Try.func88 rfl rfl rfl rfl ?_
 intro S0 σ0 n0 hn0 H
 unfold M.impl_validCoords at h
 refine c_seq ?_
 refine rg ?_
 refine st (v := (B false)) (rv_assign rfl) ?_
 refine w_end ?_
 refine q_then ?_
 refine c_seq ?_
 refine c_seq ?_
 refine rg ?_
 refine st (v := (Sl acoords_0 coords_0 ccoords_0)) (rv_move rfl) ?_
 refine st (v := (I (coords_0.length : Int))) (rv_len Try.underlying24 rfl) ?_
 refine st (v := (I 0)) (rv_move rfl) ?_
 refine w_end ?_
 refine q_then ?_
 obtain ⟨o1, hj, h'⟩ := bind_some h
 clear h
 refine c_cut (fun e a w => (∃ t, o1 = (.inl t) ∧ e = .normal ∧ ∃ (ρ : Nat → Value) (σ : St), a = fr 18 (updL ρ []) ∧ w = σ.w ∧ Hp S0 σ0 σ []) ∨ (∃ t, o1 = (.inr t) ∧ e = .ret ∧ ∃ (ρ : Nat → Value) (σ : St), a = fr 18 (updL ρ [(2, (B t))]) ∧ w = σ.w ∧ Hp S0 σ0 σ [])) ?_ ?_
 ·clear h'
  rename _ = some o1 => h
  refine c_blk ?_
  refine wp_loopM _ h (fun s2 a w => ∃ (ρ : Nat → Value) (σ : St), a = fr 18 (updL ρ [(5, (Sl acoords_0 coords_0 ccoords_0)), (6, (I (coords_0.length : Int))), (7, (I s2))]) ∧ w = σ.w ∧ Hp S0 σ0 σ [Ch.ro 0 (Sl acoords_0 coords_0 ccoords_0) coords_0]) ⟨_, σ0, fr_join ⟨rfl, rfl, rfl, trivial⟩, rfl, H.sel' [0] rfl rfl⟩ ?_
  clear h H
  rintro s2 a w o ⟨ρ, σ3, rfl, rfl, H⟩ h hres
  refine c_seq ?_
  refine rg ?_
  refine st (v := (B (decide (s2 < (coords_0.length : Int))))) (rv_lss (a := s2) (b := (coords_0.length : Int)) rfl rfl) ?_
  refine w_end ?_
  refine q_then ?_
  refine c_seq ?_
  refine cd_cond (decide (s2 < (coords_0.length : Int))) rfl (fun hb4 => ?_) (fun hb4 => ?_)
  ·replace h := bif_t hb4 h
   refine c_skip ?_
   refine q_then ?_
   refine c_seq ?_
   refine c_blk ?_
   refine c_seq ?_
   refine rg ?_
   obtain ⟨x5, hx6, h'⟩ := bind_some h
   clear h
   have h := h'; clear h'
   obtain ⟨b8, o9, hi7, -⟩ := (H.ro 0 rfl).ix hx6
   refine st (v := (pt b8 o9)) (rv_ix Try.underlying24 ti3 rfl rfl hi7) ?_
   have hc10 := ((H.ro 0 rfl).at hx6 hi7).int
   refine st (v := (I x5)) (rv_load1 Try.underlying3 rfl rfl hc10) ?_
   refine st (v := (I x5)) (rv_assign rfl) ?_
   refine w_end ?_
   refine q_then ?_
   refine c_seq ?_
   obtain ⟨o11, hj, h'⟩ := bind_some h
   clear h
   refine c_cut (fun e a w => e = .normal ∧ ∃ (ρ : Nat → Value) (σ : St), a = fr 18 (updL ρ [(5, (Sl acoords_0 coords_0 ccoords_0)), (6, (I (coords_0.length : Int))), (7, (I s2)), (16, (B o11))]) ∧ w = σ.w ∧ Hp S0 σ0 σ [Ch.ro 0 (Sl acoords_0 coords_0 ccoords_0) coords_0]) ?_ ?_
   ·clear h'
    rename _ = some o11 => h
    refine rg ?_
    refine st (v := (I x5)) (rv_move rfl) ?_
    refine st (v := (B (decide (x5 < (-100))))) (rv_lss (a := x5) (b := (-100)) rfl rfl) ?_
    refine st (v := (B (decide (x5 < (-100))))) (rv_move rfl) ?_
    rcases Bool.eq_false_or_eq_true (decide (x5 < (-100))) with hb12 | hb12
    ·replace h := bif_t hb12 h
     refine st_skip (congrArg some hb12) ?_
     refine st_skip (congrArg some hb12) ?_
     refine st (v := (B true)) (rv_pick_t (congrArg B hb12) rfl) ?_
     refine w_end ?_
     obtain rfl := Option.some.inj h
     exact ⟨rfl, _, σ3, fr_join ⟨rfl, rfl, rfl, rfl, trivial⟩, rfl, H.sel' [0] rfl rfl⟩
    ·replace h := bif_f hb12 h
     refine st_g (v := (I x5)) (congrArg some hb12) (rv_move rfl) ?_
     refine st_g (v := (B (decide (100 < x5)))) (congrArg some hb12) (rv_gtr (a := x5) (b := 100) rfl rfl) ?_
     refine st (v := (B (decide (100 < x5)))) (rv_pick_f (congrArg B hb12) rfl) ?_
     refine w_end ?_
     obtain rfl := Option.some.inj h
     exact ⟨rfl, _, σ3, fr_join ⟨rfl, rfl, rfl, rfl, trivial⟩, rfl, H.sel' [0] rfl rfl⟩
   ·clear hj
    have h := h'
    clear h' H
    rintro e a w ⟨rfl, ρ, σ13, rfl, rfl, H⟩
    refine q_then ?_
    refine cd_cond o11 rfl (fun hb14 => ?_) (fun hb14 => ?_)
    ·replace h := bif_t hb14 h
     refine c_seq ?_
     refine rg ?_
     refine st (v := (B false)) (rv_assign rfl) ?_
     refine w_end ?_
     refine q_then ?_
     refine c_ret ?_
     refine q_blk_r ?_
     refine q_then_r ?_
     refine q_then_r ?_
     refine q_blk_r ?_
     obtain rfl := Option.some.inj h
     obtain rfl := hres _ rfl
     exact .inr (⟨_, rfl, rfl, _, σ13, fr_join ⟨rfl, trivial⟩, rfl, H.sel' [] rfl rfl⟩)
    ·replace h := bif_f hb14 h
     refine c_skip ?_
     refine q_blk ?_
     refine q_then ?_
     refine rg ?_
     refine st (v := (I (w64 (s2 + 1)))) (rv_add (a := s2) (b := 1) rfl rfl) ?_
     refine st (v := (I (w64 (s2 + 1)))) (rv_move rfl) ?_
     refine w_end ?_
     refine q_then ?_
     obtain rfl := Option.some.inj h
     exact ⟨_, rfl, _, σ13, fr_join ⟨rfl, rfl, rfl, trivial⟩, rfl, H.sel' [0] rfl rfl⟩
  ·replace h := bif_f hb4 h
   refine c_exit ?_
   refine q_then_x ?_
   refine q_then_x ?_
   refine q_blk_hit ?_
   obtain rfl := Option.some.inj h
   obtain rfl := hres _ rfl
   exact .inl ⟨_, rfl, rfl, _, σ3, fr_join trivial, rfl, H.sel' [] rfl rfl⟩
 ·clear hj
  have h := h'
  clear h' H
  rintro e a w (⟨t15, rfl, rfl, ρ, σ16, rfl, rfl, H⟩ | ⟨t17, rfl, rfl, ρ, σ18, rfl, rfl, H⟩)
  ·replace h := selim_l h
   refine q_then ?_
   refine c_seq ?_
   refine rg ?_
   refine st (v := (B true)) (rv_assign rfl) ?_
   refine w_end ?_
   refine q_then ?_
   refine c_ret ?_
   obtain rfl := Option.some.inj h
   exact fin_ret (v := (B true)) (results_ok Try.results88 (res_tmp (v := (B true)) rfl res_nil) rfl) ⟨rfl, rfl⟩ (H.sel' [] rfl rfl)
  ·replace h := selim_r h
   refine q_then_r ?_
   obtain rfl := Option.some.inj h
   exact fin_ret (v := (B t17)) (results_ok Try.results88 (res_tmp (v := (B t17)) rfl res_nil) rfl) ⟨rfl, rfl⟩ (H.sel' [] rfl rfl)

theorem c_impl_ValidVector {v_0 : List Int} {av_0 : Option Addr} {cv_0 : Nat} {r : Bool} (h : M.impl_ValidVector v_0 = some r) :
    Cal2 Try.prog 53 [(Sl av_0 v_0 cv_0)] [Ch.ro 0 (Sl av_0 v_0 cv_0) v_0] (fun n0 v L => v = (B r) ∧ L = []) := by
 refine cal2 (n := 10) Try.func53 rfl rfl rfl rfl ?_
 intro S0 σ0 n0 hn0 H
 unfold M.impl_ValidVector at h
 refine c_seq ?_
 refine rg ?_
 refine st (v := (B false)) (rv_assign rfl) ?_
 refine w_end ?_
 refine q_then ?_
 refine c_seq ?_
 refine rg ?_
 refine st (v := (Sl av_0 v_0 cv_0)) (rv_move rfl) ?_
 refine st (v := (I (v_0.length : Int))) (rv_len Try.underlying24 rfl) ?_
 refine st (v := (B ((v_0.length : Int) == 4))) (rv_eql (a := (v_0.length : Int)) (b := 4) rfl rfl) ?_
 refine st (v := (B ((v_0.length : Int) == 4))) (rv_move rfl) ?_
 rcases Bool.eq_false_or_eq_true ((v_0.length : Int) == 4) with hb1 | hb1
 ·replace h := bif_t hb1 h
  refine st_g (v := (Sl av_0 v_0 cv_0)) (congrArg some hb1) (rv_move rfl) ?_
  obtain ⟨r2, hx3, h'⟩ := bind_some h
  clear h
  have h := h'; clear h'
  have hc4 := c_impl_validCoords (acoords_0 := av_0) (ccoords_0 := cv_0) hx3
  refine st_call (cx_call hc4 (ent_f hc4.fn rfl) hn0 (show Hp S0 σ0 _ ([Ch.ro 0 (Sl av_0 v_0 cv_0) v_0] ++ [Ch.ro 0 (Sl av_0 v_0 cv_0) v_0]) from (H.sel' [0, 0] rfl rfl))) (wanted_yes rfl (by exact (congrArg some hb1))) ?_
  rintro _ σ5 ⟨_, ⟨rfl, rfl⟩, H, -⟩
  replace H : Hp S0 σ0 σ5 [Ch.ro 0 (Sl av_0 v_0 cv_0) v_0] := H
  refine st (v := (B r2)) (rv_pick_t (congrArg B hb1) rfl) ?_
  refine st (v := (B r2)) (rv_assign rfl) ?_
  refine w_end ?_
  refine q_then ?_
  refine c_ret ?_
  obtain rfl := Option.some.inj h
  exact fin_ret (v := (B r2)) (results_ok Try.results53 (res_tmp (v := (B r2)) rfl res_nil) rfl) ⟨rfl, rfl⟩ (H.sel' [] rfl rfl)
 ·replace h := bif_f hb1 h
  refine st_skip (congrArg some hb1) ?_
  refine st_skip (congrArg some hb1) ?_
  refine st (v := (B false)) (rv_pick_f (congrArg B hb1) rfl) ?_
  refine st (v := (B false)) (rv_assign rfl) ?_
  refine w_end ?_
  refine q_then ?_
  refine c_ret ?_
  obtain rfl := Option.some.inj h
  exact fin_ret (v := (B false)) (results_ok Try.results53 (res_tmp (v := (B false)) rfl res_nil) rfl) ⟨rfl, rfl⟩ (H.sel' [] rfl rfl)

theorem c_impl_validVectors {list_0 : List (List Int)} {most_1 : Int} {alist_0 : Option Addr} {clist_0 : Nat} {r : Bool} (h : M.impl_validVectors list_0 most_1 = some r) :
    Cal2 Try.prog 50 [(Sl alist_0 list_0 clist_0), (I most_1)] [Ch.ro 0 (Sl alist_0 list_0 clist_0) list_0] (fun n0 v L => v = (B r) ∧ L = []) := by
 refine cal2 (n := 26) Try.func50 rfl rfl rfl rfl ?_
 intro S0 σ0 n0 hn0 H
 unfold M.impl_validVectors at h
 refine c_seq ?_
 refine rg ?_
 refine st (v := (B false)) (rv_assign rfl) ?_
 refine w_end ?_
 refine q_then ?_
 refine c_seq ?_
 refine c_seq ?_
 obtain ⟨o1, hj, h'⟩ := bind_some h
 clear h
 refine c_cut (fun e a w => e = .normal ∧ ∃ (ρ : Nat → Value) (σ : St), a = fr 26 (updL ρ [(0, (Sl alist_0 list_0 clist_0)), (15, (B o1))]) ∧ w = σ.w ∧ Hp S0 σ0 σ [Ch.ro 0 (Sl alist_0 list_0 clist_0) list_0]) ?_ ?_
 ·clear h'
  rename _ = some o1 => h
  refine rg ?_
  refine st (v := (Sl alist_0 list_0 clist_0)) (rv_move rfl) ?_
  refine st (v := (I (list_0.length : Int))) (rv_len Try.underlying22 rfl) ?_
  refine st (v := (B (decide ((list_0.length : Int) < 1)))) (rv_lss (a := (list_0.length : Int)) (b := 1) rfl rfl) ?_
  refine st (v := (B (decide ((list_0.length : Int) < 1)))) (rv_move rfl) ?_
  rcases Bool.eq_false_or_eq_true (decide ((list_0.length : Int) < 1)) with hb2 | hb2
  ·replace h := bif_t hb2 h
   refine st_skip (congrArg some hb2) ?_
   refine st_skip (congrArg some hb2) ?_
   refine st_skip (congrArg some hb2) ?_
   refine st_skip (congrArg some hb2) ?_
   refine st (v := (B true)) (rv_pick_t (congrArg B hb2) rfl) ?_
   refine w_end ?_
   obtain rfl := Option.some.inj h
   exact ⟨rfl, _, σ0, fr_join ⟨rfl, rfl, trivial⟩, rfl, H.sel' [0] rfl rfl⟩
  ·replace h := bif_f hb2 h
   refine st_g (v := (Sl alist_0 list_0 clist_0)) (congrArg some hb2) (rv_move rfl) ?_
   refine st_g (v := (I (list_0.length : Int))) (congrArg some hb2) (rv_len Try.underlying22 rfl) ?_
   refine st_g (v := (I most_1)) (congrArg some hb2) (rv_move rfl) ?_
   refine st_g (v := (B (decide (most_1 < (list_0.length : Int))))) (congrArg some hb2) (rv_gtr (a := (list_0.length : Int)) (b := most_1) rfl rfl) ?_
   refine st (v := (B (decide (most_1 < (list_0.length : Int))))) (rv_pick_f (congrArg B hb2) rfl) ?_
   refine w_end ?_
   obtain rfl := Option.some.inj h
   exact ⟨rfl, _, σ0, fr_join ⟨rfl, rfl, trivial⟩, rfl, H.sel' [0] rfl rfl⟩
 ·clear hj
  have h := h'
  clear h' H
  rintro e a w ⟨rfl, ρ, σ3, rfl, rfl, H⟩
  refine q_then ?_
  refine cd_cond o1 rfl (fun hb4 => ?_) (fun hb4 => ?_)
  ·replace h := bif_t hb4 h
   refine c_seq ?_
   refine rg ?_
   refine st (v := (B false)) (rv_assign rfl) ?_
   refine w_end ?_
   refine q_then ?_
   refine c_ret ?_
   refine q_then_r ?_
   obtain rfl := Option.some.inj h
   exact fin_ret (v := (B false)) (results_ok Try.results50 (res_tmp (v := (B false)) rfl res_nil) rfl) ⟨rfl, rfl⟩ (H.sel' [] rfl rfl)
  ·replace h := bif_f hb4 h
   refine c_skip ?_
   refine q_then ?_
   refine c_seq ?_
   refine c_seq ?_
   refine rg ?_
   refine st (v := (Sl alist_0 list_0 clist_0)) (rv_move rfl) ?_
   refine st (v := (I (list_0.length : Int))) (rv_len Try.underlying22 rfl) ?_
   refine st (v := (I 0)) (rv_move rfl) ?_
   refine w_end ?_
   refine q_then ?_
   obtain ⟨o5, hj, h'⟩ := bind_some h
   clear h
   refine c_cut (fun e a w => (∃ t, o5 = (.inl t) ∧ e = .normal ∧ ∃ (ρ : Nat → Value) (σ : St), a = fr 26 (updL ρ []) ∧ w = σ.w ∧ Hp S0 σ0 σ []) ∨ (∃ t, o5 = (.inr t) ∧ e = .ret ∧ ∃ (ρ : Nat → Value) (σ : St), a = fr 26 (updL ρ [(4, (B t))]) ∧ w = σ.w ∧ Hp S0 σ0 σ [])) ?_ ?_
   ·clear h'
    rename _ = some o5 => h
    refine c_blk ?_
    refine wp_loopM _ h (fun s6 a w => ∃ (ρ : Nat → Value) (σ : St), a = fr 26 (updL ρ [(16, (Sl alist_0 list_0 clist_0)), (17, (I (list_0.length : Int))), (18, (I s6))]) ∧ w = σ.w ∧ Hp S0 σ0 σ [Ch.ro 0 (Sl alist_0 list_0 clist_0) list_0]) ⟨_, σ3, fr_join ⟨rfl, rfl, rfl, trivial⟩, rfl, H.sel' [0] rfl rfl⟩ ?_
    clear h H
    rintro s6 a w o ⟨ρ, σ7, rfl, rfl, H⟩ h hres
    refine c_seq ?_
    refine rg ?_
    refine st (v := (B (decide (s6 < (list_0.length : Int))))) (rv_lss (a := s6) (b := (list_0.length : Int)) rfl rfl) ?_
    refine w_end ?_
    refine q_then ?_
    refine c_seq ?_
    refine cd_cond (decide (s6 < (list_0.length : Int))) rfl (fun hb8 => ?_) (fun hb8 => ?_)
    ·replace h := bif_t hb8 h
     refine c_skip ?_
     refine q_then ?_
     refine c_seq ?_
     refine c_blk ?_
     refine c_seq ?_
     refine rg ?_
     obtain ⟨x9, hx10, h'⟩ := bind_some h
     clear h
     have h := h'; clear h'
     obtain ⟨b12, o13, hi11, -⟩ := (H.ro 0 rfl).ix hx10
     refine st (v := (pt b12 o13)) (rv_ix Try.underlying22 ti24 rfl rfl hi11) ?_
     obtain ⟨v17, hc18, hR16⟩ := ((H.ro 0 rfl).at hx10 hi11).slice
     obtain ⟨a14, c15, rfl⟩ := hR16.isSl
     replace H := H.add (d := Ch.ro 0 (Sl a14 x9 c15) x9) hR16 (fun _ h => h)
     clear hR16
     refine st (v := (Sl a14 x9 c15)) (rv_load1 Try.underlying24 rfl rfl hc18) ?_
     refine st (v := (Sl a14 x9 c15)) (rv_assign rfl) ?_
     refine w_end ?_
     refine q_then ?_
     refine c_seq ?_
     refine rg ?_
     refine st (v := (Sl a14 x9 c15)) (rv_move rfl) ?_
     obtain ⟨r19, hx20, h'⟩ := bind_some h
     clear h
     have h := h'; clear h'
     have hc21 := c_impl_ValidVector (av_0 := a14) (cv_0 := c15) hx20
     refine st_call (cx_call hc21 (ent_f hc21.fn rfl) hn0 (show Hp S0 σ0 _ ([Ch.ro 0 (Sl a14 x9 c15) x9] ++ [Ch.ro 0 (Sl a14 x9 c15) x9, Ch.ro 0 (Sl alist_0 list_0 clist_0) list_0]) from (H.sel' [0, 0, 1] rfl rfl))) wn ?_
     rintro _ σ22 ⟨_, ⟨rfl, rfl⟩, H, -⟩
     replace H : Hp S0 σ0 σ22 [Ch.ro 0 (Sl a14 x9 c15) x9, Ch.ro 0 (Sl alist_0 list_0 clist_0) list_0] := H
     refine st (v := (B (!r19))) (rv_not rfl) ?_
     refine w_end ?_
     refine q_then ?_
     refine cd_cond (!r19) rfl (fun hb23 => ?_) (fun hb23 => ?_)
     ·replace h := bif_t hb23 h
      refine c_seq ?_
      refine rg ?_
      refine st (v := (B false)) (rv_assign rfl) ?_
      refine w_end ?_
      refine q_then ?_
      refine c_ret ?_
      refine q_blk_r ?_
      refine q_then_r ?_
      refine q_then_r ?_
      refine q_blk_r ?_
      obtain rfl := Option.some.inj h
      obtain rfl := hres _ rfl
      exact .inr (⟨_, rfl, rfl, _, σ22, fr_join ⟨rfl, trivial⟩, rfl, H.sel' [] rfl rfl⟩)
     ·replace h := bif_f hb23 h
      refine c_skip ?_
      refine q_blk ?_
      refine q_then ?_
      refine rg ?_
      refine st (v := (I (w64 (s6 + 1)))) (rv_add (a := s6) (b := 1) rfl rfl) ?_
      refine st (v := (I (w64 (s6 + 1)))) (rv_move rfl) ?_
      refine w_end ?_
      refine q_then ?_
      obtain rfl := Option.some.inj h
      exact ⟨_, rfl, _, σ22, fr_join ⟨rfl, rfl, rfl, trivial⟩, rfl, H.sel' [1] rfl rfl⟩
    ·replace h := bif_f hb8 h
     refine c_exit ?_
     refine q_then_x ?_
     refine q_then_x ?_
     refine q_blk_hit ?_
     obtain rfl := Option.some.inj h
     obtain rfl := hres _ rfl
     exact .inl ⟨_, rfl, rfl, _, σ7, fr_join trivial, rfl, H.sel' [] rfl rfl⟩
   ·clear hj
    have h := h'
    clear h' H
    rintro e a w (⟨t24, rfl, rfl, ρ, σ25, rfl, rfl, H⟩ | ⟨t26, rfl, rfl, ρ, σ27, rfl, rfl, H⟩)
    ·replace h := selim_l h
     refine q_then ?_
     refine c_seq ?_
     refine rg ?_
     refine st (v := (B true)) (rv_assign rfl) ?_
     refine w_end ?_
     refine q_then ?_
     refine c_ret ?_
     obtain rfl := Option.some.inj h
     exact fin_ret (v := (B true)) (results_ok Try.results50 (res_tmp (v := (B true)) rfl res_nil) rfl) ⟨rfl, rfl⟩ (H.sel' [] rfl rfl)
    ·replace h := selim_r h
     refine q_then_r ?_
     obtain rfl := Option.some.inj h
     exact fin_ret (v := (B t26)) (results_ok Try.results50 (res_tmp (v := (B t26)) rfl res_nil) rfl) ⟨rfl, rfl⟩ (H.sel' [] rfl rfl)

theorem c_impl_divideDown {n_0 : Int} {by_1 : Int}  {r : Int} (h : M.impl_divideDown n_0 by_1 = some r) :
    Cal2 Try.prog 51 [(I n_0), (I by_1)] [] (fun n0 v L => v = (I r) ∧ L = []) := by
 refine cal2 (n := 16) Try.func51 rfl rfl rfl rfl ?_
 intro S0 σ0 n0 hn0 H
 unfold M.impl_divideDown at h
 refine c_seq ?_
 refine rg ?_
 refine st (v := (I 0)) (rv_assign rfl) ?_
 refine w_end ?_
 refine q_then ?_
 refine c_seq ?_
 refine rg ?_
 refine st (v := (I n_0)) (rv_move rfl) ?_
 refine st (v := (I by_1)) (rv_move rfl) ?_
 obtain ⟨q1, hx2, h'⟩ := bind_some h
 clear h
 have h := h'; clear h'
 refine st (v := (I q1)) (rv_quoG (a := n_0) (b := by_1) hx2 rfl rfl) ?_
 refine st (v := (I q1)) (rv_assign rfl) ?_
 refine w_end ?_
 refine q_then ?_
 refine c_seq ?_
 refine c_seq ?_
 refine rg ?_
 refine st (v := (I n_0)) (rv_move rfl) ?_
 refine st (v := (I by_1)) (rv_move rfl) ?_
 obtain ⟨q3, hx4, h'⟩ := bind_some h
 clear h
 have h := h'; clear h'
 refine st (v := (I q3)) (rv_remG (a := n_0) (b := by_1) hx4 rfl rfl) ?_
 refine st (v := (B (decide (q3 < 0)))) (rv_lss (a := q3) (b := 0) rfl rfl) ?_
 refine w_end ?_
 refine q_then ?_
 obtain ⟨o5, hj, h'⟩ := bind_some h
 clear h
 refine c_cut (fun e a w => e = .normal ∧ ∃ (ρ : Nat → Value) (σ : St), a = fr 16 (updL ρ [(5, (I o5))]) ∧ w = σ.w ∧ Hp S0 σ0 σ []) ?_ ?_
 ·clear h'
  rename _ = some o5 => h
  refine cd_cond (decide (q3 < 0)) rfl (fun hb6 => ?_) (fun hb6 => ?_)
  ·replace h := bif_t hb6 h
   refine rg ?_
   refine st (v := (I q1)) (rv_move rfl) ?_
   refine st (v := (I (w64 (q1 - 1)))) (rv_sub (a := q1) (b := 1) rfl rfl) ?_
   refine st (v := (I (w64 (q1 - 1)))) (rv_assign rfl) ?_
   refine w_end ?_
   obtain rfl := Option.some.inj h
   exact ⟨rfl, _, σ0, fr_join ⟨rfl, trivial⟩, rfl, H.sel' [] rfl rfl⟩
  ·replace h := bif_f hb6 h
   refine c_skip ?_
   obtain rfl := Option.some.inj h
   exact ⟨rfl, _, σ0, fr_join ⟨rfl, trivial⟩, rfl, H.sel' [] rfl rfl⟩
 ·clear hj
  have h := h'
  clear h' H
  rintro e a w ⟨rfl, ρ, σ7, rfl, rfl, H⟩
  refine q_then ?_
  refine c_seq ?_
  refine rg ?_
  refine st (v := (I o5)) (rv_move rfl) ?_
  refine st (v := (I o5)) (rv_assign rfl) ?_
  refine w_end ?_
  refine q_then ?_
  refine c_ret ?_
  obtain rfl := Option.some.inj h
  exact fin_ret (v := (I o5)) (results_ok Try.results51 (res_tmp (v := (I o5)) rfl res_nil) rfl) ⟨rfl, rfl⟩ (H.sel' [] rfl rfl)

theorem c_impl_MeanOf {list_0 : List (List Int)} {alist_0 : Option Addr} {clist_0 : Nat} {r : (List Int)} (h : M.impl_MeanOf list_0 = some r) :
    Cal2 Try.prog 16 [(Sl alist_0 list_0 clist_0)] [Ch.ro 0 (Sl alist_0 list_0 clist_0) list_0] (fun n0 v L => ∃ (az1 : Option Addr), ∃ (cz2 : Nat), v = (Sl az1 r cz2) ∧ L = [Ch.own n0 n0 (Sl az1 r cz2) r] ∧ cz2 = r.length) := by
 refine cal2 (n := 47) Try.func16 rfl rfl rfl rfl ?_
 intro S0 σ0 n0 hn0 H
 unfold M.impl_MeanOf at h
 refine c_seq ?_
 refine rg ?_
 refine st (v := (.slice none 0 0)) (rv_assign rfl) ?_
 refine w_end ?_
 refine q_then ?_
 refine c_seq ?_
 refine c_seq ?_
 refine rg ?_
 refine st (v := (Sl alist_0 list_0 clist_0)) (rv_move rfl) ?_
 obtain ⟨r1, hx2, h'⟩ := bind_some h
 clear h
 have h := h'; clear h'
 have hc3 := c_impl_validVectors (alist_0 := alist_0) (clist_0 := clist_0) hx2
 refine st_call (cx_call hc3 (ent_f hc3.fn rfl) hn0 (show Hp S0 σ0 _ ([Ch.ro 0 (Sl alist_0 list_0 clist_0) list_0] ++ [Ch.ro 0 (Sl alist_0 list_0 clist_0) list_0]) from (H.sel' [0, 0] rfl rfl))) wn ?_
 rintro _ σ4 ⟨_, ⟨rfl, rfl⟩, H, -⟩
 replace H : Hp S0 σ0 σ4 [Ch.ro 0 (Sl alist_0 list_0 clist_0) list_0] := H
 refine st (v := (B (!r1))) (rv_not rfl) ?_
 refine w_end ?_
 refine q_then ?_
 refine cd_cond (!r1) rfl (fun hb5 => ?_) (fun hb5 => ?_)
 ·replace h := bif_t hb5 h
  refine c_seq ?_
  refine rg ?_
  refine st (v := (.slice none 0 0)) (rv_assign rfl) ?_
  refine w_end ?_
  refine q_then ?_
  refine c_ret ?_
  refine q_then_r ?_
  replace H := H.nilOwn Int n0 n0
  obtain rfl := Option.some.inj h
  exact fin_ret (v := (.slice none 0 0)) (results_ok Try.results16 (res_tmp (v := (.slice none 0 0)) rfl res_nil) rfl) ⟨none, 0, rfl, rfl, rfl⟩ (H.sel' [0] rfl rfl)
 ·replace h := bif_f hb5 h
  refine c_skip ?_
  refine q_then ?_
  refine c_seq ?_
  refine rg ?_
  refine st_ex (ex_alloc (cs := (List.map I (List.replicate 4 0))) H hn0 ti57 rfl) wn ?_
  rintro _ σ7 ⟨b6, rfl, H, -⟩
  refine w_end ?_
  refine q_then ?_
  refine c_seq ?_
  refine c_seq ?_
  refine rg ?_
  refine st (v := (Sl alist_0 list_0 clist_0)) (rv_move rfl) ?_
  refine st (v := (I (list_0.length : Int))) (rv_len Try.underlying22 rfl) ?_
  refine st (v := (I 0)) (rv_move rfl) ?_
  refine w_end ?_
  refine q_then ?_
  obtain ⟨o8, hj, h'⟩ := bind_some h
  clear h
  refine c_cut (fun e a w => e = .normal ∧ ∃ (ρ : Nat → Value) (σ : St), a = fr 47 (updL ρ [(0, (Sl alist_0 list_0 clist_0)), (3, (pt b6 0))]) ∧ w = σ.w ∧ Hp S0 σ0 σ [Ch.bx n0 b6 0 (List.map I o8) [] [], Ch.ro 0 (Sl alist_0 list_0 clist_0) list_0] ∧ o8.length = 4) ?_ ?_
  ·clear h'
   rename _ = some o8 => h
   refine c_blk ?_
   refine wp_loopM _ h (fun s9 a w => ∃ (ρ : Nat → Value) (σ : St), a = fr 47 (updL ρ [(0, (Sl alist_0 list_0 clist_0)), (3, (pt b6 0)), (13, (Sl alist_0 list_0 clist_0)), (14, (I (list_0.length : Int))), (15, (I s9.2))]) ∧ w = σ.w ∧ Hp S0 σ0 σ [Ch.bx n0 b6 0 (List.map I s9.1) [] [], Ch.ro 0 (Sl alist_0 list_0 clist_0) list_0] ∧ s9.1.length = 4) ⟨_, σ7, fr_join ⟨rfl, rfl, rfl, rfl, rfl, trivial⟩, rfl, H.sel' [0, 1] rfl rfl, rfl⟩ ?_
   clear h H
   rintro s9 a w o ⟨ρ, σ10, rfl, rfl, H, hl11⟩ h hres
   refine c_seq ?_
   refine rg ?_
   refine st (v := (B (decide (s9.2 < (list_0.length : Int))))) (rv_lss (a := s9.2) (b := (list_0.length : Int)) rfl rfl) ?_
   refine w_end ?_
   refine q_then ?_
   refine c_seq ?_
   refine cd_cond (decide (s9.2 < (list_0.length : Int))) rfl (fun hb12 => ?_) (fun hb12 => ?_)
   ·replace h := bif_t hb12 h
    refine c_skip ?_
    refine q_then ?_
    refine c_seq ?_
    refine c_blk ?_
    refine c_seq ?_
    refine rg ?_
    obtain ⟨x13, hx14, h'⟩ := bind_some h
    clear h
    have h := h'; clear h'
    obtain ⟨b16, o17, hi15, -⟩ := (H.ro 1 rfl).ix hx14
    refine st (v := (pt b16 o17)) (rv_ix Try.underlying22 ti24 rfl rfl hi15) ?_
    obtain ⟨v21, hc22, hR20⟩ := ((H.ro 1 rfl).at hx14 hi15).slice
    obtain ⟨a18, c19, rfl⟩ := hR20.isSl
    replace H := H.add (d := Ch.ro 0 (Sl a18 x13 c19) x13) hR20 (fun _ h => h)
    clear hR20
    refine st (v := (Sl a18 x13 c19)) (rv_load1 Try.underlying24 rfl rfl hc22) ?_
    refine st (v := (Sl a18 x13 c19)) (rv_assign rfl) ?_
    refine w_end ?_
    refine q_then ?_
    refine c_seq ?_
    refine rg ?_
    refine st (v := (Sl a18 x13 c19)) (rv_move rfl) ?_
    refine st (v := (I (x13.length : Int))) (rv_len Try.underlying24 rfl) ?_
    refine st (v := (I 0)) (rv_move rfl) ?_
    refine w_end ?_
    refine q_then ?_
    obtain ⟨o23, hj, h'⟩ := bind_some h
    clear h
    refine c_cut (fun e a w => e = .normal ∧ ∃ (ρ : Nat → Value) (σ : St), a = fr 47 (updL ρ [(0, (Sl alist_0 list_0 clist_0)), (3, (pt b6 0)), (13, (Sl alist_0 list_0 clist_0)), (14, (I (list_0.length : Int))), (15, (I s9.2))]) ∧ w = σ.w ∧ Hp S0 σ0 σ [Ch.bx n0 b6 0 (List.map I o23) [] [], Ch.ro 0 (Sl alist_0 list_0 clist_0) list_0] ∧ o23.length = 4) ?_ ?_
    ·clear h'
     rename _ = some o23 => h
     refine c_blk ?_
     refine wp_loopM _ h (fun s24 a w => ∃ (ρ : Nat → Value) (σ : St), a = fr 47 (updL ρ [(0, (Sl alist_0 list_0 clist_0)), (3, (pt b6 0)), (13, (Sl alist_0 list_0 clist_0)), (14, (I (list_0.length : Int))), (15, (I s9.2)), (19, (Sl a18 x13 c19)), (20, (I (x13.length : Int))), (21, (I s24.2))]) ∧ w = σ.w ∧ Hp S0 σ0 σ [Ch.bx n0 b6 0 (List.map I s24.1) [] [], Ch.ro 0 (Sl alist_0 list_0 clist_0) list_0, Ch.ro 0 (Sl a18 x13 c19) x13] ∧ s24.1.length = 4) ⟨_, σ10, fr_join ⟨rfl, rfl, rfl, rfl, rfl, rfl, rfl, rfl, trivial⟩, rfl, H.sel' [1, 2, 0] rfl rfl, hl11⟩ ?_
     clear h H
     rintro s24 a w o ⟨ρ, σ25, rfl, rfl, H, hl26⟩ h hres
     refine c_seq ?_
     refine rg ?_
     refine st (v := (B (decide (s24.2 < (x13.length : Int))))) (rv_lss (a := s24.2) (b := (x13.length : Int)) rfl rfl) ?_
     refine w_end ?_
     refine q_then ?_
     refine c_seq ?_
     refine cd_cond (decide (s24.2 < (x13.length : Int))) rfl (fun hb27 => ?_) (fun hb27 => ?_)
     ·replace h := bif_t hb27 h
      refine c_skip ?_
      refine q_then ?_
      refine c_seq ?_
      refine c_blk ?_
      refine c_seq ?_
      refine rg ?_
      refine st (v := (I s24.2)) (rv_move rfl) ?_
      obtain ⟨x28, hx29, h'⟩ := bind_some h
      clear h
      have h := h'; clear h'
      obtain ⟨b31, o32, hi30, -⟩ := (H.ro 2 rfl).ix hx29
      refine st (v := (pt b31 o32)) (rv_ix Try.underlying24 ti3 rfl rfl hi30) ?_
      have hc33 := ((H.ro 2 rfl).at hx29 hi30).int
      refine st (v := (I x28)) (rv_load1 Try.underlying3 rfl rfl hc33) ?_
      refine st (v := (I s24.2)) (rv_assign rfl) ?_
      refine st (v := (I x28)) (rv_assign rfl) ?_
      refine w_end ?_
      refine q_then ?_
      refine rg ?_
      refine st (v := (I s24.2)) (rv_move rfl) ?_
      obtain ⟨x34, hx35, h'⟩ := bind_some h
      clear h
      have h := h'; clear h'
      have hl36 := gidx_lt hx35 hl26
      refine st (v := (pt b6 (0 + s24.2.toNat * 1))) (rv_indexAddr_array Try.underlying57 ti3 rfl rfl hl36.1 hl36.2) ?_
      have hc37 := Hp.arrCell H 0 rfl hx35
      refine st (v := (I x34)) (rv_load1 Try.underlying3 rfl rfl hc37) ?_
      refine st (v := (I x28)) (rv_move rfl) ?_
      refine st (v := (I (w64 (x34 + x28)))) (rv_add (a := x34) (b := x28) rfl rfl) ?_
      obtain ⟨x38, hx39, h'⟩ := bind_some h
      clear h
      have h := h'; clear h'
      have hl40 := gidx_lt hx39 hl26
      refine st (v := (pt b6 (0 + s24.2.toNat * 1))) (rv_indexAddr_array Try.underlying57 ti3 rfl rfl hl40.1 hl40.2) ?_
      have hl41 := gidx_lt hx39 hl26
      refine st_exS (ex_store_box (k := s24.2.toNat * 1) (vs := [(I (w64 (x34 + x28)))]) (cs' := (List.map I (s24.1.set s24.2.toNat (w64 (x34 + x28))))) H (i := 0) rfl ti3 rfl rfl rfl rfl rfl (by rw [List.length_map, hl26]; simp; omega) (by simp [plain]) (arr_set' _ _ _)) wn ?_
      rintro σ42 ⟨H, -⟩
      refine w_end ?_
      refine q_blk ?_
      refine q_then ?_
      refine rg ?_
      refine st (v := (I (w64 (s24.2 + 1)))) (rv_add (a := s24.2) (b := 1) rfl rfl) ?_
      refine st (v := (I (w64 (s24.2 + 1)))) (rv_move rfl) ?_
      refine w_end ?_
      refine q_then ?_
      obtain rfl := Option.some.inj h
      exact ⟨_, rfl, _, σ42, fr_join ⟨rfl, rfl, rfl, rfl, rfl, rfl, rfl, rfl, trivial⟩, rfl, H.sel' [0, 1, 2] rfl rfl, (set_len hl26)⟩
     ·replace h := bif_f hb27 h
      refine c_exit ?_
      refine q_then_x ?_
      refine q_then_x ?_
      refine q_blk_hit ?_
      obtain rfl := Option.some.inj h
      obtain rfl := hres _ rfl
      exact ⟨rfl, _, σ25, fr_join ⟨rfl, rfl, rfl, rfl, rfl, trivial⟩, rfl, H.sel' [0, 1] rfl rfl, hl26⟩
    ·clear hj
     have h := h'
     clear h' H
     rintro e a w ⟨rfl, ρ, σ43, rfl, rfl, H, hl44⟩
     refine q_blk ?_
     refine q_then ?_
     refine rg ?_
     refine st (v := (I (w64 (s9.2 + 1)))) (rv_add (a := s9.2) (b := 1) rfl rfl) ?_
     refine st (v := (I (w64 (s9.2 + 1)))) (rv_move rfl) ?_
     refine w_end ?_
     refine q_then ?_
     obtain rfl := Option.some.inj h
     exact ⟨_, rfl, _, σ43, fr_join ⟨rfl, rfl, rfl, rfl, rfl, trivial⟩, rfl, H.sel' [0, 1] rfl rfl, hl44⟩
   ·replace h := bif_f hb12 h
    refine c_exit ?_
    refine q_then_x ?_
    refine q_then_x ?_
    refine q_blk_hit ?_
    obtain rfl := Option.some.inj h
    obtain rfl := hres _ rfl
    exact ⟨rfl, _, σ10, fr_join ⟨rfl, rfl, trivial⟩, rfl, H.sel' [0, 1] rfl rfl, hl11⟩
  ·clear hj
   have h := h'
   clear h' H
   rintro e a w ⟨rfl, ρ, σ45, rfl, rfl, H, hl46⟩
   refine q_then ?_
   refine c_seq ?_
   refine c_seq ?_
   refine rg ?_
   have hc47 := H.cells 0 rfl
   refine st (v := (.agg (List.map I o8).toArray)) (rv_load (cs := (List.map I o8)) Try.underlying57 rfl ti57 rfl (by rw [List.length_map]; exact hl46) hc47) ?_
   refine st (v := (I 0)) (rv_move rfl) ?_
   refine w_end ?_
   refine q_then ?_
   obtain ⟨o48, hj, h'⟩ := bind_some h
   clear h
   refine c_cut (fun e a w => e = .normal ∧ ∃ (ρ : Nat → Value) (σ : St), a = fr 47 (updL ρ [(3, (pt b6 0))]) ∧ w = σ.w ∧ Hp S0 σ0 σ [Ch.bx n0 b6 0 (List.map I o48) [] []] ∧ o48.length = 4) ?_ ?_
   ·clear h'
    rename _ = some o48 => h
    refine c_blk ?_
    refine wp_loopM _ h (fun s49 a w => ∃ (ρ : Nat → Value) (σ : St), a = fr 47 (updL ρ [(0, (Sl alist_0 list_0 clist_0)), (3, (pt b6 0)), (34, (.agg (List.map I o8).toArray)), (35, (I s49.2))]) ∧ w = σ.w ∧ Hp S0 σ0 σ [Ch.bx n0 b6 0 (List.map I s49.1) [] [], Ch.ro 0 (Sl alist_0 list_0 clist_0) list_0] ∧ s49.1.length = 4) ⟨_, σ45, fr_join ⟨rfl, rfl, rfl, rfl, trivial⟩, rfl, H.sel' [0, 1] rfl rfl, hl46⟩ ?_
    clear h H
    rintro s49 a w o ⟨ρ, σ50, rfl, rfl, H, hl51⟩ h hres
    refine c_seq ?_
    refine rg ?_
    refine st (v := (B (decide (s49.2 < 4)))) (rv_lss (a := s49.2) (b := 4) rfl rfl) ?_
    refine w_end ?_
    refine q_then ?_
    refine c_seq ?_
    refine cd_cond (decide (s49.2 < 4)) rfl (fun hb52 => ?_) (fun hb52 => ?_)
    ·replace h := bif_t hb52 h
     refine c_skip ?_
     refine q_then ?_
     refine c_seq ?_
     refine c_blk ?_
     refine c_seq ?_
     refine rg ?_
     refine st (v := (I s49.2)) (rv_move rfl) ?_
     obtain ⟨x53, hx54, h'⟩ := bind_some h
     clear h
     have h := h'; clear h'
     refine st (v := (I x53)) (rv_idx Try.underlying57 ti3 Try.underlying3 rfl rfl hx54 hl46) ?_
     refine st (v := (I s49.2)) (rv_assign rfl) ?_
     refine st (v := (I x53)) (rv_assign rfl) ?_
     refine w_end ?_
     refine q_then ?_
     refine rg ?_
     refine st (v := (I s49.2)) (rv_move rfl) ?_
     refine st (v := (I x53)) (rv_move rfl) ?_
     refine st (v := (Sl alist_0 list_0 clist_0)) (rv_move rfl) ?_
     refine st (v := (I (list_0.length : Int))) (rv_len Try.underlying22 rfl) ?_
     obtain ⟨r55, hx56, h'⟩ := bind_some h
     clear h
     have h := h'; clear h'
     have hc57 := c_impl_divideDown hx56
     refine st_call (cx_call hc57 (ent_f hc57.fn rfl) hn0 (show Hp S0 σ0 _ ([] ++ [Ch.bx n0 b6 0 (List.map I s49.1) [] [], Ch.ro 0 (Sl alist_0 list_0 clist_0) list_0]) from (H.sel' [0, 1] rfl rfl))) wn ?_
     rintro _ σ58 ⟨_, ⟨rfl, rfl⟩, H, -⟩
     replace H : Hp S0 σ0 σ58 [Ch.bx n0 b6 0 (List.map I s49.1) [] [], Ch.ro 0 (Sl alist_0 list_0 clist_0) list_0] := H
     obtain ⟨x59, hx60, h'⟩ := bind_some h
     clear h
     have h := h'; clear h'
     have hl61 := gidx_lt hx60 hl51
     refine st (v := (pt b6 (0 + s49.2.toNat * 1))) (rv_indexAddr_array Try.underlying57 ti3 rfl rfl hl61.1 hl61.2) ?_
     have hl62 := gidx_lt hx60 hl51
     refine st_exS (ex_store_box (k := s49.2.toNat * 1) (vs := [(I r55)]) (cs' := (List.map I (s49.1.set s49.2.toNat r55))) H (i := 0) rfl ti3 rfl rfl rfl rfl rfl (by rw [List.length_map, hl51]; simp; omega) (by simp [plain]) (arr_set' _ _ _)) wn ?_
     rintro σ63 ⟨H, -⟩
     refine w_end ?_
     refine q_blk ?_
     refine q_then ?_
     refine rg ?_
     refine st (v := (I (w64 (s49.2 + 1)))) (rv_add (a := s49.2) (b := 1) rfl rfl) ?_
     refine st (v := (I (w64 (s49.2 + 1)))) (rv_move rfl) ?_
     refine w_end ?_
     refine q_then ?_
     obtain rfl := Option.some.inj h
     exact ⟨_, rfl, _, σ63, fr_join ⟨rfl, rfl, rfl, rfl, trivial⟩, rfl, H.sel' [0, 1] rfl rfl, (set_len hl51)⟩
    ·replace h := bif_f hb52 h
     refine c_exit ?_
     refine q_then_x ?_
     refine q_then_x ?_
     refine q_blk_hit ?_
     obtain rfl := Option.some.inj h
     obtain rfl := hres _ rfl
     exact ⟨rfl, _, σ50, fr_join ⟨rfl, trivial⟩, rfl, H.sel' [0] rfl rfl, hl51⟩
   ·clear hj
    have h := h'
    clear h' H
    rintro e a w ⟨rfl, ρ, σ64, rfl, rfl, H, hl65⟩
    refine q_then ?_
    refine c_seq ?_
    refine rg ?_
    replace H := Hp.arr (el := n0) H (i := 0) rfl hl65
    refine st (v := (Sl (some ⟨b6, 0, none⟩) o48 4)) (rv_slice_arrL Try.underlying57 ti3 (by decide) rfl hl65) ?_
    refine st (v := (Sl (some ⟨b6, 0, none⟩) o48 4)) (rv_assign rfl) ?_
    refine w_end ?_
    refine q_then ?_
    refine c_ret ?_
    obtain rfl := Option.some.inj h
    exact fin_ret (v := (Sl (some ⟨b6, 0, none⟩) o48 4)) (results_ok Try.results16 (res_tmp (v := (Sl (some ⟨b6, 0, none⟩) o48 4)) rfl res_nil) rfl) ⟨(some ⟨b6, 0, none⟩), 4, rfl, rfl, hl65.symm⟩ (H.sel' [0] rfl rfl)

theorem c_laws_eqIntS {a_0 : List Int} {b_1 : List Int} {aa_0 : Option Addr} {ca_0 : Nat} {ab_1 : Option Addr} {cb_1 : Nat} {r : Bool} (h : M.laws_eqIntS a_0 b_1 = some r) :
    Cal2 Try.prog 17 [(Sl aa_0 a_0 ca_0), (Sl ab_1 b_1 cb_1)] [Ch.ro 0 (Sl aa_0 a_0 ca_0) a_0, Ch.ro 0 (Sl ab_1 b_1 cb_1) b_1] (fun n0 v L => v = (B r) ∧ L = []) := by
 refine cal2 (n := 26) Try.func17 rfl rfl rfl rfl ?_
 intro S0 σ0 n0 hn0 H
 unfold M.laws_eqIntS at h
 refine c_seq ?_
 refine rg ?_
 refine st (v := (B false)) (rv_assign rfl) ?_
 refine w_end ?_
 refine q_then ?_
 refine c_seq ?_
 refine c_seq ?_
 refine rg ?_
 refine st (v := (Sl aa_0 a_0 ca_0)) (rv_move rfl) ?_
 refine st (v := (I (a_0.length : Int))) (rv_len Try.underlying24 rfl) ?_
 refine st (v := (Sl ab_1 b_1 cb_1)) (rv_move rfl) ?_
 refine st (v := (I (b_1.length : Int))) (rv_len Try.underlying24 rfl) ?_
 refine st (v := (B ((a_0.length : Int) != (b_1.length : Int)))) (rv_neq (a := (a_0.length : Int)) (b := (b_1.length : Int)) rfl rfl) ?_
 refine w_end ?_
 refine q_then ?_
 refine cd_cond ((a_0.length : Int) != (b_1.length : Int)) rfl (fun hb1 => ?_) (fun hb1 => ?_)
 ·replace h := bif_t hb1 h
  refine c_seq ?_
  refine rg ?_
  refine st (v := (B false)) (rv_assign rfl) ?_
  refine w_end ?_
  refine q_then ?_
  refine c_ret ?_
  refine q_then_r ?_
  obtain rfl := Option.some.inj h
  exact fin_ret (v := (B false)) (results_ok Try.results17 (res_tmp (v := (B false)) rfl res_nil) rfl) ⟨rfl, rfl⟩ (H.sel' [] rfl rfl)
 ·replace h := bif_f hb1 h
  refine c_skip ?_
  refine q_then ?_
  refine c_seq ?_
  refine c_seq ?_
  refine rg ?_
  refine st (v := (I 0)) (rv_assign rfl) ?_
  refine w_end ?_
  refine q_then ?_
  obtain ⟨o2, hj, h'⟩ := bind_some h
  clear h
  refine c_cut (fun e a w => (∃ t, o2 = (.inl t) ∧ e = .normal ∧ ∃ (ρ : Nat → Value) (σ : St), a = fr 26 (updL ρ []) ∧ w = σ.w ∧ Hp S0 σ0 σ []) ∨ (∃ t, o2 = (.inr t) ∧ e = .ret ∧ ∃ (ρ : Nat → Value) (σ : St), a = fr 26 (updL ρ [(4, (B t))]) ∧ w = σ.w ∧ Hp S0 σ0 σ [])) ?_ ?_
  ·clear h'
   rename _ = some o2 => h
   refine c_blk ?_
   refine wp_loopM _ h (fun s3 a w => ∃ (ρ : Nat → Value) (σ : St), a = fr 26 (updL ρ [(0, (Sl aa_0 a_0 ca_0)), (1, (Sl ab_1 b_1 cb_1)), (5, (I s3))]) ∧ w = σ.w ∧ Hp S0 σ0 σ [Ch.ro 0 (Sl aa_0 a_0 ca_0) a_0, Ch.ro 0 (Sl ab_1 b_1 cb_1) b_1]) ⟨_, σ0, fr_join ⟨rfl, rfl, rfl, trivial⟩, rfl, H.sel' [0, 1] rfl rfl⟩ ?_
   clear h H
   rintro s3 a w o ⟨ρ, σ4, rfl, rfl, H⟩ h hres
   refine c_seq ?_
   refine c_seq ?_
   refine rg ?_
   refine st (v := (I s3)) (rv_move rfl) ?_
   refine st (v := (Sl aa_0 a_0 ca_0)) (rv_move rfl) ?_
   refine st (v := (I (a_0.length : Int))) (rv_len Try.underlying24 rfl) ?_
   refine st (v := (B (decide (s3 < (a_0.length : Int))))) (rv_lss (a := s3) (b := (a_0.length : Int)) rfl rfl) ?_
   refine w_end ?_
   refine q_then ?_
   refine cd_cond (decide (s3 < (a_0.length : Int))) rfl (fun hb5 => ?_) (fun hb5 => ?_)
   ·replace h := bif_t hb5 h
    refine c_skip ?_
    refine q_then ?_
    refine c_seq ?_
    refine c_blk ?_
    refine c_seq ?_
    refine rgP (σ := σ4) 8 (by kernel_rfl) (by kernel_rfl) (by kernel_rfl) ?_
    refine sq (v := (Sl aa_0 a_0 ca_0)) (rv_move rfl) ?_
    refine sq (v := (I s3)) (rv_move rfl) ?_
    obtain ⟨x6, hx7, h'⟩ := bind_some h
    clear h
    have h := h'; clear h'
    obtain ⟨b9, o10, hi8, -⟩ := (H.ro 0 rfl).ix hx7
    refine sq (v := (pt b9 o10)) (rv_ix Try.underlying24 ti3 rfl rfl hi8) ?_
    have hc11 := ((H.ro 0 rfl).at hx7 hi8).int
    refine sq (v := (I x6)) (rv_load1 Try.underlying3 rfl rfl hc11) ?_
    refine sq (v := (Sl ab_1 b_1 cb_1)) (rv_move rfl) ?_
    refine sq (v := (I s3)) (rv_move rfl) ?_
    obtain ⟨x12, hx13, h'⟩ := bind_some h
    clear h
    have h := h'; clear h'
    obtain ⟨b15, o16, hi14, -⟩ := (H.ro 1 rfl).ix hx13
    refine sq (v := (pt b15 o16)) (rv_ix Try.underlying24 ti3 rfl rfl hi14) ?_
    have hc17 := ((H.ro 1 rfl).at hx13 hi14).int
    refine sq (v := (I x12)) (rv_load1 Try.underlying3 rfl rfl hc17) ?_
    refine sq_end ?_
    intro σ18 hm19
    replace H := H.grow (hm19.mono fun _ h => h); clear hm19
    refine st (v := (B (x6 != x12))) (rv_neq (a := x6) (b := x12) rfl rfl) ?_
    refine w_end ?_
    refine q_then ?_
    refine cd_cond (x6 != x12) rfl (fun hb20 => ?_) (fun hb20 => ?_)
    ·replace h := bif_t hb20 h
     refine c_seq ?_
     refine rg ?_
     refine st (v := (B false)) (rv_assign rfl) ?_
     refine w_end ?_
     refine q_then ?_
     refine c_ret ?_
     refine q_blk_r ?_
     refine q_then_r ?_
     refine q_then_r ?_
     refine q_blk_r ?_
     obtain rfl := Option.some.inj h
     obtain rfl := hres _ rfl
     exact .inr (⟨_, rfl, rfl, _, σ18, fr_join ⟨rfl, trivial⟩, rfl, H.sel' [] rfl rfl⟩)
    ·replace h := bif_f hb20 h
     refine c_skip ?_
     refine q_blk ?_
     refine q_then ?_
     refine rg ?_
     refine st (v := (I s3)) (rv_move rfl) ?_
     refine st (v := (I (w64 (s3 + 1)))) (rv_add (a := s3) (b := 1) rfl rfl) ?_
     refine st (v := (I (w64 (s3 + 1)))) (rv_assign rfl) ?_
     refine w_end ?_
     refine q_then ?_
     obtain rfl := Option.some.inj h
     exact ⟨_, rfl, _, σ18, fr_join ⟨rfl, rfl, rfl, trivial⟩, rfl, H.sel' [0, 1] rfl rfl⟩
   ·replace h := bif_f hb5 h
    refine c_exit ?_
    refine q_then_x ?_
    refine q_then_x ?_
    refine q_blk_hit ?_
    obtain rfl := Option.some.inj h
    obtain rfl := hres _ rfl
    exact .inl ⟨_, rfl, rfl, _, σ4, fr_join trivial, rfl, H.sel' [] rfl rfl⟩
  ·clear hj
   have h := h'
   clear h' H
   rintro e a w (⟨t21, rfl, rfl, ρ, σ22, rfl, rfl, H⟩ | ⟨t23, rfl, rfl, ρ, σ24, rfl, rfl, H⟩)
   ·replace h := selim_l h
    refine q_then ?_
    refine c_seq ?_
    refine rg ?_
    refine st (v := (B true)) (rv_assign rfl) ?_
    refine w_end ?_
    refine q_then ?_
    refine c_ret ?_
    obtain rfl := Option.some.inj h
    exact fin_ret (v := (B true)) (results_ok Try.results17 (res_tmp (v := (B true)) rfl res_nil) rfl) ⟨rfl, rfl⟩ (H.sel' [] rfl rfl)
   ·replace h := selim_r h
    refine q_then_r ?_
    obtain rfl := Option.some.inj h
    exact fin_ret (v := (B t23)) (results_ok Try.results17 (res_tmp (v := (B t23)) rfl res_nil) rfl) ⟨rfl, rfl⟩ (H.sel' [] rfl rfl)

theorem c_laws_eqIntSS {a_0 : List (List Int)} {b_1 : List (List Int)} {aa_0 : Option Addr} {ca_0 : Nat} {ab_1 : Option Addr} {cb_1 : Nat} {r : Bool} (h : M.laws_eqIntSS a_0 b_1 = some r) :
    Cal2 Try.prog 18 [(Sl aa_0 a_0 ca_0), (Sl ab_1 b_1 cb_1)] [Ch.ro 0 (Sl aa_0 a_0 ca_0) a_0, Ch.ro 0 (Sl ab_1 b_1 cb_1) b_1] (fun n0 v L => v = (B r) ∧ L = []) := by
 refine cal2 (n := 27) Try.func18 rfl rfl rfl rfl ?_
 intro S0 σ0 n0 hn0 H
 unfold M.laws_eqIntSS at h
 refine c_seq ?_
 refine rg ?_
 refine st (v := (B false)) (rv_assign rfl) ?_
 refine w_end ?_
 refine q_then ?_
 refine c_seq ?_
 refine c_seq ?_
 refine rg ?_
 refine st (v := (Sl aa_0 a_0 ca_0)) (rv_move rfl) ?_
 refine st (v := (I (a_0.length : Int))) (rv_len Try.underlying22 rfl) ?_
 refine st (v := (Sl ab_1 b_1 cb_1)) (rv_move rfl) ?_
 refine st (v := (I (b_1.length : Int))) (rv_len Try.underlying22 rfl) ?_
 refine st (v := (B ((a_0.length : Int) != (b_1.length : Int)))) (rv_neq (a := (a_0.length : Int)) (b := (b_1.length : Int)) rfl rfl) ?_
 refine w_end ?_
 refine q_then ?_
 refine cd_cond ((a_0.length : Int) != (b_1.length : Int)) rfl (fun hb1 => ?_) (fun hb1 => ?_)
 ·replace h := bif_t hb1 h
  refine c_seq ?_
  refine rg ?_
  refine st (v := (B false)) (rv_assign rfl) ?_
  refine w_end ?_
  refine q_then ?_
  refine c_ret ?_
  refine q_then_r ?_
  obtain rfl := Option.some.inj h
  exact fin_ret (v := (B false)) (results_ok Try.results18 (res_tmp (v := (B false)) rfl res_nil) rfl) ⟨rfl, rfl⟩ (H.sel' [] rfl rfl)
 ·replace h := bif_f hb1 h
  refine c_skip ?_
  refine q_then ?_
  refine c_seq ?_
  refine c_seq ?_
  refine rg ?_
  refine st (v := (I 0)) (rv_assign rfl) ?_
  refine w_end ?_
  refine q_then ?_
  obtain ⟨o2, hj, h'⟩ := bind_some h
  clear h
  refine c_cut (fun e a w => (∃ t, o2 = (.inl t) ∧ e = .normal ∧ ∃ (ρ : Nat → Value) (σ : St), a = fr 27 (updL ρ []) ∧ w = σ.w ∧ Hp S0 σ0 σ []) ∨ (∃ t, o2 = (.inr t) ∧ e = .ret ∧ ∃ (ρ : Nat → Value) (σ : St), a = fr 27 (updL ρ [(4, (B t))]) ∧ w = σ.w ∧ Hp S0 σ0 σ [])) ?_ ?_
  ·clear h'
   rename _ = some o2 => h
   refine c_blk ?_
   refine wp_loopM _ h (fun s3 a w => ∃ (ρ : Nat → Value) (σ : St), a = fr 27 (updL ρ [(0, (Sl aa_0 a_0 ca_0)), (1, (Sl ab_1 b_1 cb_1)), (5, (I s3))]) ∧ w = σ.w ∧ Hp S0 σ0 σ [Ch.ro 0 (Sl aa_0 a_0 ca_0) a_0, Ch.ro 0 (Sl ab_1 b_1 cb_1) b_1]) ⟨_, σ0, fr_join ⟨rfl, rfl, rfl, trivial⟩, rfl, H.sel' [0, 1] rfl rfl⟩ ?_
   clear h H
   rintro s3 a w o ⟨ρ, σ4, rfl, rfl, H⟩ h hres
   refine c_seq ?_
   refine c_seq ?_
   refine rg ?_
   refine st (v := (I s3)) (rv_move rfl) ?_
   refine st (v := (Sl aa_0 a_0 ca_0)) (rv_move rfl) ?_
   refine st (v := (I (a_0.length : Int))) (rv_len Try.underlying22 rfl) ?_
   refine st (v := (B (decide (s3 < (a_0.length : Int))))) (rv_lss (a := s3) (b := (a_0.length : Int)) rfl rfl) ?_
   refine w_end ?_
   refine q_then ?_
   refine cd_cond (decide (s3 < (a_0.length : Int))) rfl (fun hb5 => ?_) (fun hb5 => ?_)
   ·replace h := bif_t hb5 h
    refine c_skip ?_
    refine q_then ?_
    refine c_seq ?_
    refine c_blk ?_
    refine c_seq ?_
    refine rgP (σ := σ4) 8 (by kernel_rfl) (by kernel_rfl) (by kernel_rfl) ?_
    refine sq (v := (Sl aa_0 a_0 ca_0)) (rv_move rfl) ?_
    refine sq (v := (I s3)) (rv_move rfl) ?_
    obtain ⟨x6, hx7, h'⟩ := bind_some h
    clear h
    have h := h'; clear h'
    obtain ⟨b9, o10, hi8, -⟩ := (H.ro 0 rfl).ix hx7
    refine sq (v := (pt b9 o10)) (rv_ix Try.underlying22 ti24 rfl rfl hi8) ?_
    obtain ⟨v14, hc15, hR13⟩ := ((H.ro 0 rfl).at hx7 hi8).slice
    obtain ⟨a11, c12, rfl⟩ := hR13.isSl
    replace H := H.add (d := Ch.ro 0 (Sl a11 x6 c12) x6) hR13 (fun _ h => h)
    clear hR13
    refine sq (v := (Sl a11 x6 c12)) (rv_load1 Try.underlying24 rfl rfl hc15) ?_
    refine sq (v := (Sl ab_1 b_1 cb_1)) (rv_move rfl) ?_
    refine sq (v := (I s3)) (rv_move rfl) ?_
    obtain ⟨x16, hx17, h'⟩ := bind_some h
    clear h
    have h := h'; clear h'
    obtain ⟨b19, o20, hi18, -⟩ := (H.ro 2 rfl).ix hx17
    refine sq (v := (pt b19 o20)) (rv_ix Try.underlying22 ti24 rfl rfl hi18) ?_
    obtain ⟨v24, hc25, hR23⟩ := ((H.ro 2 rfl).at hx17 hi18).slice
    obtain ⟨a21, c22, rfl⟩ := hR23.isSl
    replace H := H.add (d := Ch.ro 0 (Sl a21 x16 c22) x16) hR23 (fun _ h => h)
    clear hR23
    refine sq (v := (Sl a21 x16 c22)) (rv_load1 Try.underlying24 rfl rfl hc25) ?_
    refine sq_end ?_
    intro σ26 hm27
    replace H := H.grow (hm27.mono fun _ h => h); clear hm27
    obtain ⟨r28, hx29, h'⟩ := bind_some h
    clear h
    have h := h'; clear h'
    have hc30 := c_laws_eqIntS (aa_0 := a11) (ca_0 := c12) (ab_1 := a21) (cb_1 := c22) hx29
    refine st_call (cx_call hc30 (ent_f hc30.fn rfl) hn0 (show Hp S0 σ0 _ ([Ch.ro 0 (Sl a11 x6 c12) x6, Ch.ro 0 (Sl a21 x16 c22) x16] ++ [Ch.ro 0 (Sl a21 x16 c22) x16, Ch.ro 0 (Sl a11 x6 c12) x6, Ch.ro 0 (Sl aa_0 a_0 ca_0) a_0, Ch.ro 0 (Sl ab_1 b_1 cb_1) b_1]) from (H.sel' [1, 0, 0, 1, 2, 3] rfl rfl))) wn ?_
    rintro _ σ31 ⟨_, ⟨rfl, rfl⟩, H, -⟩
    replace H : Hp S0 σ0 σ31 [Ch.ro 0 (Sl a21 x16 c22) x16, Ch.ro 0 (Sl a11 x6 c12) x6, Ch.ro 0 (Sl aa_0 a_0 ca_0) a_0, Ch.ro 0 (Sl ab_1 b_1 cb_1) b_1] := H
    refine st (v := (B (!r28))) (rv_not rfl) ?_
    refine w_end ?_
    refine q_then ?_
    refine cd_cond (!r28) rfl (fun hb32 => ?_) (fun hb32 => ?_)
    ·replace h := bif_t hb32 h
     refine c_seq ?_
     refine rg ?_
     refine st (v := (B false)) (rv_assign rfl) ?_
     refine w_end ?_
     refine q_then ?_
     refine c_ret ?_
     refine q_blk_r ?_
     refine q_then_r ?_
     refine q_then_r ?_
     refine q_blk_r ?_
     obtain rfl := Option.some.inj h
     obtain rfl := hres _ rfl
     exact .inr (⟨_, rfl, rfl, _, σ31, fr_join ⟨rfl, trivial⟩, rfl, H.sel' [] rfl rfl⟩)
    ·replace h := bif_f hb32 h
     refine c_skip ?_
     refine q_blk ?_
     refine q_then ?_
     refine rg ?_
     refine st (v := (I s3)) (rv_move rfl) ?_
     refine st (v := (I (w64 (s3 + 1)))) (rv_add (a := s3) (b := 1) rfl rfl) ?_
     refine st (v := (I (w64 (s3 + 1)))) (rv_assign rfl) ?_
     refine w_end ?_
     refine q_then ?_
     obtain rfl := Option.some.inj h
     exact ⟨_, rfl, _, σ31, fr_join ⟨rfl, rfl, rfl, trivial⟩, rfl, H.sel' [2, 3] rfl rfl⟩
   ·replace h := bif_f hb5 h
    refine c_exit ?_
    refine q_then_x ?_
    refine q_then_x ?_
    refine q_blk_hit ?_
    obtain rfl := Option.some.inj h
    obtain rfl := hres _ rfl
    exact .inl ⟨_, rfl, rfl, _, σ4, fr_join trivial, rfl, H.sel' [] rfl rfl⟩
  ·clear hj
   have h := h'
   clear h' H
   rintro e a w (⟨t33, rfl, rfl, ρ, σ34, rfl, rfl, H⟩ | ⟨t35, rfl, rfl, ρ, σ36, rfl, rfl, H⟩)
   ·replace h := selim_l h
    refine q_then ?_
    refine c_seq ?_
    refine rg ?_
    refine st (v := (B true)) (rv_assign rfl) ?_
    refine w_end ?_
    refine q_then ?_
    refine c_ret ?_
    obtain rfl := Option.some.inj h
    exact fin_ret (v := (B true)) (results_ok Try.results18 (res_tmp (v := (B true)) rfl res_nil) rfl) ⟨rfl, rfl⟩ (H.sel' [] rfl rfl)
   ·replace h := selim_r h
    refine q_then_r ?_
    obtain rfl := Option.some.inj h
    exact fin_ret (v := (B t35)) (results_ok Try.results18 (res_tmp (v := (B t35)) rfl res_nil) rfl) ⟨rfl, rfl⟩ (H.sel' [] rfl rfl)

theorem c_laws_markIntS {a_0 : List Int} {k_1 : Int} {aa_0 : Option Addr} {ca_0 : Nat} {r : Int × (List Int)} (h : M.laws_markIntS a_0 k_1 = some r) :
    Cal2 Try.prog 20 [(Sl aa_0 a_0 ca_0), (I k_1)] [Ch.own 0 0 (Sl aa_0 a_0 ca_0) a_0] (fun n0 v L => v = (I r.1) ∧ L = [Ch.own 0 0 (Sl aa_0 r.2 ca_0) r.2] ∧ r.2.length = a_0.length) := by
 refine cal2 (n := 19) Try.func20 rfl rfl rfl rfl ?_
 intro S0 σ0 n0 hn0 H
 unfold M.laws_markIntS at h
 refine c_seq ?_
 refine rg ?_
 refine st (v := (I 0)) (rv_assign rfl) ?_
 refine w_end ?_
 refine q_then ?_
 refine c_seq ?_
 refine c_seq ?_
 refine rg ?_
 refine st (v := (I 0)) (rv_assign rfl) ?_
 refine w_end ?_
 refine q_then ?_
 obtain ⟨o1, hj, h'⟩ := bind_some h
 clear h
 refine c_cut (fun e a w => e = .normal ∧ ∃ (ρ : Nat → Value) (σ : St), a = fr 19 (updL ρ [(0, (Sl aa_0 o1.1 ca_0)), (1, (I o1.2))]) ∧ w = σ.w ∧ Hp S0 σ0 σ [Ch.own 0 0 (Sl aa_0 o1.1 ca_0) o1.1] ∧ o1.1.length = a_0.length) ?_ ?_
 ·clear h'
  rename _ = some o1 => h
  refine c_blk ?_
  refine wp_loopM _ h (fun s2 a w => ∃ (ρ : Nat → Value) (σ : St), a = fr 19 (updL ρ [(0, (Sl aa_0 s2.1 ca_0)), (1, (I s2.2.1)), (5, (I s2.2.2))]) ∧ w = σ.w ∧ Hp S0 σ0 σ [Ch.own 0 0 (Sl aa_0 s2.1 ca_0) s2.1] ∧ s2.1.length = a_0.length) ⟨_, σ0, fr_join ⟨rfl, rfl, rfl, trivial⟩, rfl, H.sel' [0] rfl rfl, rfl⟩ ?_
  clear h H
  rintro s2 a w o ⟨ρ, σ3, rfl, rfl, H, hn4⟩ h hres
  refine c_seq ?_
  refine c_seq ?_
  refine rg ?_
  refine st (v := (I s2.2.2)) (rv_move rfl) ?_
  refine st (v := (Sl aa_0 s2.1 ca_0)) (rv_move rfl) ?_
  refine st (v := (I (s2.1.length : Int))) (rv_len Try.underlying24 rfl) ?_
  refine st (v := (B (decide (s2.2.2 < (s2.1.length : Int))))) (rv_lss (a := s2.2.2) (b := (s2.1.length : Int)) rfl rfl) ?_
  refine w_end ?_
  refine q_then ?_
  refine cd_cond (decide (s2.2.2 < (s2.1.length : Int))) rfl (fun hb5 => ?_) (fun hb5 => ?_)
  ·replace h := bif_t hb5 h
   refine c_skip ?_
   refine q_then ?_
   refine c_seq ?_
   refine c_blk ?_
   refine c_seq ?_
   refine rg ?_
   refine st (v := (Sl aa_0 s2.1 ca_0)) (rv_move rfl) ?_
   refine st (v := (I s2.2.2)) (rv_move rfl) ?_
   refine st (v := (I s2.2.1)) (rv_move rfl) ?_
   obtain ⟨x6, hx7, h'⟩ := bind_some h
   clear h
   have h := h'; clear h'
   obtain ⟨b9, o10, hi8, -⟩ := (H.own 0 rfl).ix hx7
   refine st (v := (pt b9 o10)) (rv_ix Try.underlying24 ti3 rfl rfl hi8) ?_
   refine st_exS (ex_store_own (e' := s2.2.1) (vs := [(I s2.2.1)]) (k := 0) H (i := 0) rfl ti3 hx7 hi8 rfl rfl rfl rfl rfl (Nat.le_of_ble_eq_true rfl) (by simp [plain]) (by rintro _ rfl; exact rfl)) wn ?_
   rintro σ11 ⟨H, -⟩
   have hsl : (Sl aa_0 s2.1 ca_0) = (Sl aa_0 (s2.1.set s2.2.2.toNat s2.2.1) ca_0) := sl_len List.length_set.symm
   rw [hsl]; rw [hsl] at H; clear hsl
   refine w_end ?_
   refine q_then ?_
   refine rg ?_
   refine st (v := (I s2.2.1)) (rv_move rfl) ?_
   refine st (v := (I (w64 (s2.2.1 + 1)))) (rv_add (a := s2.2.1) (b := 1) rfl rfl) ?_
   refine st (v := (I (w64 (s2.2.1 + 1)))) (rv_assign rfl) ?_
   refine w_end ?_
   refine q_blk ?_
   refine q_then ?_
   refine rg ?_
   refine st (v := (I s2.2.2)) (rv_move rfl) ?_
   refine st (v := (I (w64 (s2.2.2 + 1)))) (rv_add (a := s2.2.2) (b := 1) rfl rfl) ?_
   refine st (v := (I (w64 (s2.2.2 + 1)))) (rv_assign rfl) ?_
   refine w_end ?_
   refine q_then ?_
   obtain rfl := Option.some.inj h
   exact ⟨_, rfl, _, σ11, fr_join ⟨rfl, rfl, rfl, trivial⟩, rfl, H.sel' [0] rfl rfl, (List.length_set.trans hn4)⟩
  ·replace h := bif_f hb5 h
   refine c_exit ?_
   refine q_then_x ?_
   refine q_then_x ?_
   refine q_blk_hit ?_
   obtain rfl := Option.some.inj h
   obtain rfl := hres _ rfl
   exact ⟨rfl, _, σ3, fr_join ⟨rfl, rfl, trivial⟩, rfl, H.sel' [0] rfl rfl, hn4⟩
 ·clear hj
  have h := h'
  clear h' H
  rintro e a w ⟨rfl, ρ, σ12, rfl, rfl, H, hn13⟩
  refine q_then ?_
  refine c_seq ?_
  refine rg ?_
  refine st (v := (I o1.2)) (rv_move rfl) ?_
  refine st (v := (I o1.2)) (rv_assign rfl) ?_
  refine w_end ?_
  refine q_then ?_
  refine c_ret ?_
  obtain rfl := Option.some.inj h
  exact fin_ret (v := (I o1.2)) (results_ok Try.results20 (res_tmp (v := (I o1.2)) rfl res_nil) rfl) ⟨rfl, rfl, hn13⟩ (H.sel' [0] rfl rfl)

theorem c_laws_markIntSS {a_0 : List (List Int)} {k_1 : Int} {aa_0 : Option Addr} {ca_0 : Nat} {lo : Nat} {K : List Ch} (hK : Dp lo (Sl aa_0 a_0 ca_0) a_0 K) {r : Int} (h : M.markIntSD a_0 k_1 = some r) :
    Cal2 Try.prog 19 [(Sl aa_0 a_0 ca_0), (I k_1)] [Ch.big K] (fun n0 v L => v = (I r) ∧ L = []) := by
 obtain ⟨hn, h⟩ := markIntSD_some h
 obtain ⟨ps, hps, rfl⟩ := hK.ex
 refine cal2 (n := 19) Try.func19 rfl rfl rfl rfl ?_
 intro S0 σ0 n0 hn0 H
 refine c_seq ?_
 refine rg ?_
 refine st (v := (I 0)) (rv_assign rfl) ?_
 refine w_end ?_
 refine q_then ?_
 refine c_seq ?_
 refine c_seq ?_
 refine rg ?_
 refine st (v := (I 0)) (rv_assign rfl) ?_
 refine w_end ?_
 refine q_then ?_
 refine c_cut (fun e a w => e = .normal ∧ ∃ (ρ : Nat → Value) (σ : St), a = fr 19 (updL ρ [(1, (I r))]) ∧ w = σ.w ∧ Hp S0 σ0 σ []) ?_ ?_
 ·refine c_blk ?_
  have hlen : ps.length = a_0.length := by rw [hps]; simp
  refine wp_loop_ghost (fun m a w => ∃ (i : Nat) (ρ : Nat → Value) (σ : St) (ys : List Value) (qs : List ((List Int) × Value)) (k : Int), i + m = a_0.length ∧ qs.length = m ∧ ys.drop i = qs.map dsh ∧ M.dmarkIntSS (qs.map (·.1)) k = some r ∧ a = fr 19 (updL ρ [(0, (Sl aa_0 a_0 ca_0)), (1, (I k)), (5, (I (i : Int)))]) ∧ w = σ.w ∧ Hp S0 σ0 σ [Ch.own lo lo (Sl aa_0 a_0 ca_0) ys, Ch.big (qs.map (dow lo))]) a_0.length ⟨0, _, σ0, _, ps, k_1, by omega, hlen, rfl, hps ▸ h, fr_join ⟨rfl, rfl, rfl, trivial⟩, rfl, H.unbig⟩ ?_
  clear H
  rintro m _ _ ⟨i, ρ, σ3, ys, qs, k, him, hqs, hys, hk, rfl, rfl, H⟩
  refine c_seq ?_
  refine c_seq ?_
  refine rg ?_
  refine st (v := (I (i : Int))) (rv_move rfl) ?_
  refine st (v := (Sl aa_0 a_0 ca_0)) (rv_move rfl) ?_
  refine st (v := (I (a_0.length : Int))) (rv_len Try.underlying22 rfl) ?_
  refine st (v := (B (decide ((i : Int) < (a_0.length : Int))))) (rv_lss (a := (i : Int)) (b := (a_0.length : Int)) rfl rfl) ?_
  refine w_end ?_
  refine q_then ?_
  refine cd_cond (decide ((i : Int) < (a_0.length : Int))) rfl (fun hb => ?_) (fun hb => ?_)
  ·have hlt : i < a_0.length := by have := of_decide_eq_true hb; omega
   obtain ⟨m, rfl⟩ : ∃ m', m = m' + 1 := ⟨m - 1, by omega⟩
   obtain ⟨p, qs, rfl⟩ : ∃ p qs', qs = p :: qs' := by cases qs with
    | nil => cases hqs
    | cons p qs => exact ⟨p, qs, rfl⟩
   obtain ⟨q, hq, hk'⟩ := bind_some (show (M.laws_markIntS p.1 k).bind (fun q => M.dmarkIntSS (qs.map (·.1)) q.1) = some r from hk)
   replace hys : ys.drop i = dsh p :: qs.map dsh := hys
   refine c_skip ?_
   refine q_then ?_
   refine c_seq ?_
   refine c_blk ?_
   refine rg ?_
   refine st (v := (Sl aa_0 a_0 ca_0)) (rv_move rfl) ?_
   refine st (v := (I (i : Int))) (rv_move rfl) ?_
   have hx7 := gidx_drop hys
   obtain ⟨b9, o10, hi8, -⟩ := (H.own 0 rfl).ix hx7
   refine st (v := (pt b9 o10)) (rv_ix Try.underlying22 ti24 rfl rfl hi8) ?_
   obtain ⟨_, ⟨rfl, hpl⟩, hl18, hc19⟩ := ((H.own 0 rfl).at hx7 hi8).cells
   replace H := Hp.unbig (H.sel' [1, 0] rfl rfl)
   obtain ⟨a20, c21, h22⟩ : IsSl p.2 p.1.length := (show Ow σ3 lo lo p.2 p.1 from H.head).isSl
   obtain ⟨px, hd⟩ := p
   dsimp only at h22 hq hys hc19
   subst h22
   have hc20 := hc19 0 (by simp)
   refine st (v := (Sl a20 px c21)) (rv_load1 Try.underlying24 rfl rfl hc20) ?_
   refine st (v := (I k)) (rv_move rfl) ?_
   replace H : Hp S0 σ0 σ3 [Ch.own lo lo (Sl a20 px c21) px, Ch.big (qs.map (dow lo)), Ch.own lo lo (Sl aa_0 a_0 ca_0) ys] := H
   replace H := H.ownSc 0 0 0 rfl (Nat.zero_le _)
   have hc25 := c_laws_markIntS (aa_0 := a20) (ca_0 := c21) hq
   refine st_call (cx_call hc25 (ent_f hc25.fn rfl) hn0 (H.sel' [0, 1, 2] rfl rfl : Hp S0 σ0 _ ([_] ++ _))) (wanted_none _ rfl _) ?_
   rintro _ σ29 ⟨_, ⟨rfl, rfl, -⟩, H, -⟩
   replace H : Hp S0 σ0 σ29 [Ch.own 0 0 (Sl a20 q.2 c21) q.2, Ch.big (qs.map (dow lo)), Ch.own lo lo (Sl aa_0 a_0 ca_0) ys] := H
   replace H := H.sel' [2, 1] rfl rfl
   refine st (v := (I q.1)) (rv_assign rfl) ?_
   refine w_end ?_
   refine q_blk ?_
   refine q_then ?_
   refine rg ?_
   refine st (v := (I (i : Int))) (rv_move rfl) ?_
   refine st (v := (I (w64 ((i : Int) + 1)))) (rv_add (a := (i : Int)) (b := 1) rfl rfl) ?_
   refine st (v := (I (w64 ((i : Int) + 1)))) (rv_assign rfl) ?_
   refine w_end ?_
   have e1 : w64 ((i : Int) + 1) = ((i + 1 : Nat) : Int) := w64_id (by omega) (by omega)
   rw [e1]
   refine q_then ?_
   exact ⟨m, by omega, i + 1, _, σ29, _, qs, _, by omega, by simpa using hqs, drop_next hys, hk', fr_join ⟨rfl, rfl, rfl, trivial⟩, rfl, H⟩
  ·have hlt : ¬ i < a_0.length := by have := of_decide_eq_false hb; omega
   obtain rfl : m = 0 := by omega
   obtain rfl : qs = [] := List.eq_nil_of_length_eq_zero hqs
   obtain rfl : k = r := Option.some.inj hk
   refine c_exit ?_
   refine q_then_x ?_
   refine q_then_x ?_
   refine q_blk_hit ?_
   exact ⟨rfl, _, σ3, fr_join ⟨rfl, trivial⟩, rfl, H.sel' [] rfl rfl⟩
 ·clear H
  rintro e a w ⟨rfl, ρ, σ41, rfl, rfl, H⟩
  refine q_then ?_
  refine c_seq ?_
  refine rg ?_
  refine st (v := (I r)) (rv_move rfl) ?_
  refine st (v := (I r)) (rv_assign rfl) ?_
  refine w_end ?_
  refine q_then ?_
  refine c_ret ?_
  exact fin_ret (v := (I r)) (results_ok Try.results19 (res_tmp (v := (I r)) rfl res_nil) rfl) ⟨rfl, rfl⟩ H


theorem c_laws_heldIntS {a_0 : List Int} {k_1 : Int} {aa_0 : Option Addr} {ca_0 : Nat} {r : Int} (h : M.laws_heldIntS a_0 k_1 = some r) :
    Cal2 Try.prog 21 [(Sl aa_0 a_0 ca_0), (I k_1)] [Ch.ro 0 (Sl aa_0 a_0 ca_0) a_0] (fun n0 v L => v = (I r) ∧ L = []) := by
 refine cal2 (n := 21) Try.func21 rfl rfl rfl rfl ?_
 intro S0 σ0 n0 hn0 H
 unfold M.laws_heldIntS at h
 refine c_seq ?_
 refine rg ?_
 refine st (v := (I 0)) (rv_assign rfl) ?_
 refine w_end ?_
 refine q_then ?_
 refine c_seq ?_
 refine c_seq ?_
 refine rg ?_
 refine st (v := (I 0)) (rv_assign rfl) ?_
 refine w_end ?_
 refine q_then ?_
 obtain ⟨o1, hj, h'⟩ := bind_some h
 clear h
 refine c_cut (fun e a w => (∃ t, o1 = (.inl t) ∧ e = .normal ∧ ∃ (ρ : Nat → Value) (σ : St), a = fr 21 (updL ρ [(1, (I t))]) ∧ w = σ.w ∧ Hp S0 σ0 σ []) ∨ (∃ t, o1 = (.inr t) ∧ e = .ret ∧ ∃ (ρ : Nat → Value) (σ : St), a = fr 21 (updL ρ [(4, (I t))]) ∧ w = σ.w ∧ Hp S0 σ0 σ [])) ?_ ?_
 ·clear h'
  rename _ = some o1 => h
  refine c_blk ?_
  refine wp_loopM _ h (fun s2 a w => ∃ (ρ : Nat → Value) (σ : St), a = fr 21 (updL ρ [(0, (Sl aa_0 a_0 ca_0)), (1, (I s2.1)), (5, (I s2.2))]) ∧ w = σ.w ∧ Hp S0 σ0 σ [Ch.ro 0 (Sl aa_0 a_0 ca_0) a_0]) ⟨_, σ0, fr_join ⟨rfl, rfl, rfl, trivial⟩, rfl, H.sel' [0] rfl rfl⟩ ?_
  clear h H
  rintro s2 a w o ⟨ρ, σ3, rfl, rfl, H⟩ h hres
  refine c_seq ?_
  refine c_seq ?_
  refine rg ?_
  refine st (v := (I s2.2)) (rv_move rfl) ?_
  refine st (v := (Sl aa_0 a_0 ca_0)) (rv_move rfl) ?_
  refine st (v := (I (a_0.length : Int))) (rv_len Try.underlying24 rfl) ?_
  refine st (v := (B (decide (s2.2 < (a_0.length : Int))))) (rv_lss (a := s2.2) (b := (a_0.length : Int)) rfl rfl) ?_
  refine w_end ?_
  refine q_then ?_
  refine cd_cond (decide (s2.2 < (a_0.length : Int))) rfl (fun hb4 => ?_) (fun hb4 => ?_)
  ·replace h := bif_t hb4 h
   refine c_skip ?_
   refine q_then ?_
   refine c_seq ?_
   refine c_blk ?_
   refine c_seq ?_
   refine c_seq ?_
   refine rg ?_
   refine st (v := (Sl aa_0 a_0 ca_0)) (rv_move rfl) ?_
   refine st (v := (I s2.2)) (rv_move rfl) ?_
   obtain ⟨x5, hx6, h'⟩ := bind_some h
   clear h
   have h := h'; clear h'
   obtain ⟨b8, o9, hi7, -⟩ := (H.ro 0 rfl).ix hx6
   refine st (v := (pt b8 o9)) (rv_ix Try.underlying24 ti3 rfl rfl hi7) ?_
   have hc10 := ((H.ro 0 rfl).at hx6 hi7).int
   refine st (v := (I x5)) (rv_load1 Try.underlying3 rfl rfl hc10) ?_
   refine st (v := (I s2.1)) (rv_move rfl) ?_
   refine st (v := (B (x5 != s2.1))) (rv_neq (a := x5) (b := s2.1) rfl rfl) ?_
   refine w_end ?_
   refine q_then ?_
   refine cd_cond (x5 != s2.1) rfl (fun hb11 => ?_) (fun hb11 => ?_)
   ·replace h := bif_t hb11 h
    refine c_seq ?_
    refine rg ?_
    refine st (v := (I (-1))) (rv_assign rfl) ?_
    refine w_end ?_
    refine q_then ?_
    refine c_ret ?_
    refine q_then_r ?_
    refine q_blk_r ?_
    refine q_then_r ?_
    refine q_then_r ?_
    refine q_blk_r ?_
    obtain rfl := Option.some.inj h
    obtain rfl := hres _ rfl
    exact .inr (⟨_, rfl, rfl, _, σ3, fr_join ⟨rfl, trivial⟩, rfl, H.sel' [] rfl rfl⟩)
   ·replace h := bif_f hb11 h
    refine c_skip ?_
    refine q_then ?_
    refine rg ?_
    refine st (v := (I s2.1)) (rv_move rfl) ?_
    refine st (v := (I (w64 (s2.1 + 1)))) (rv_add (a := s2.1) (b := 1) rfl rfl) ?_
    refine st (v := (I (w64 (s2.1 + 1)))) (rv_assign rfl) ?_
    refine w_end ?_
    refine q_blk ?_
    refine q_then ?_
    refine rg ?_
    refine st (v := (I s2.2)) (rv_move rfl) ?_
    refine st (v := (I (w64 (s2.2 + 1)))) (rv_add (a := s2.2) (b := 1) rfl rfl) ?_
    refine st (v := (I (w64 (s2.2 + 1)))) (rv_assign rfl) ?_
    refine w_end ?_
    refine q_then ?_
    obtain rfl := Option.some.inj h
    exact ⟨_, rfl, _, σ3, fr_join ⟨rfl, rfl, rfl, trivial⟩, rfl, H.sel' [0] rfl rfl⟩
  ·replace h := bif_f hb4 h
   refine c_exit ?_
   refine q_then_x ?_
   refine q_then_x ?_
   refine q_blk_hit ?_
   obtain rfl := Option.some.inj h
   obtain rfl := hres _ rfl
   exact .inl ⟨_, rfl, rfl, _, σ3, fr_join ⟨rfl, trivial⟩, rfl, H.sel' [] rfl rfl⟩
 ·clear hj
  have h := h'
  clear h' H
  rintro e a w (⟨t12, rfl, rfl, ρ, σ13, rfl, rfl, H⟩ | ⟨t14, rfl, rfl, ρ, σ15, rfl, rfl, H⟩)
  ·replace h := selim_l h
   refine q_then ?_
   refine c_seq ?_
   refine rg ?_
   refine st (v := (I t12)) (rv_move rfl) ?_
   refine st (v := (I t12)) (rv_assign rfl) ?_
   refine w_end ?_
   refine q_then ?_
   refine c_ret ?_
   obtain rfl := Option.some.inj h
   exact fin_ret (v := (I t12)) (results_ok Try.results21 (res_tmp (v := (I t12)) rfl res_nil) rfl) ⟨rfl, rfl⟩ (H.sel' [] rfl rfl)
  ·replace h := selim_r h
   refine q_then_r ?_
   obtain rfl := Option.some.inj h
   exact fin_ret (v := (I t14)) (results_ok Try.results21 (res_tmp (v := (I t14)) rfl res_nil) rfl) ⟨rfl, rfl⟩ (H.sel' [] rfl rfl)

theorem c_laws_FnExactMeanOf {aList_0 : List (List Int)} {aaList_0 : Option Addr} {caList_0 : Nat} {r : Bool} (h : M.laws_FnExactMeanOf aList_0 = some r) :
    Cal2 Try.prog 3 [(Sl aaList_0 aList_0 caList_0)] [Ch.ro 0 (Sl aaList_0 aList_0 caList_0) aList_0] (fun n0 v L => v = (B r) ∧ L = []) := by
 refine cal2 (n := 69) Try.func3 rfl rfl rfl rfl ?_
 intro S0 σ0 n0 hn0 H
 unfold M.laws_FnExactMeanOf at h
 refine c_seq ?_
 refine rg ?_
 refine st (v := (B false)) (rv_assign rfl) ?_
 refine w_end ?_
 refine q_then ?_
 refine c_seq ?_
 refine rg ?_
 refine st (v := (I 1048576)) (rv_assign rfl) ?_
 refine w_end ?_
 refine q_then ?_
 refine c_seq ?_
 refine rg ?_
 refine st (v := (Sl aaList_0 aList_0 caList_0)) (rv_move rfl) ?_
 refine st (v := (I 1048576)) (rv_move rfl) ?_
 obtain ⟨r1, hx2, h'⟩ := bind_some h
 clear h
 have h := h'; clear h'
 have hc3 := c_laws_szIntSS (aa_0 := aaList_0) (ca_0 := caList_0) hx2
 refine st_call (cx_call hc3 (ent_f hc3.fn rfl) hn0 (show Hp S0 σ0 _ ([Ch.ro 0 (Sl aaList_0 aList_0 caList_0) aList_0] ++ [Ch.ro 0 (Sl aaList_0 aList_0 caList_0) aList_0]) from (H.sel' [0, 0] rfl rfl))) wn ?_
 rintro _ σ4 ⟨_, ⟨rfl, rfl⟩, H, -⟩
 replace H : Hp S0 σ0 σ4 [Ch.ro 0 (Sl aaList_0 aList_0 caList_0) aList_0] := H
 refine st (v := (I r1)) (rv_assign rfl) ?_
 refine w_end ?_
 refine q_then ?_
 refine c_seq ?_
 refine c_seq ?_
 refine rg ?_
 refine st (v := (I r1)) (rv_move rfl) ?_
 refine st (v := (B (decide (r1 < 0)))) (rv_lss (a := r1) (b := 0) rfl rfl) ?_
 refine w_end ?_
 refine q_then ?_
 refine cd_cond (decide (r1 < 0)) rfl (fun hb5 => ?_) (fun hb5 => ?_)
 ·replace h := bif_t hb5 h
  refine c_seq ?_
  refine rg ?_
  refine st (v := (B true)) (rv_assign rfl) ?_
  refine w_end ?_
  refine q_then ?_
  refine c_ret ?_
  refine q_then_r ?_
  obtain rfl := Option.some.inj h
  exact fin_ret (v := (B true)) (results_ok Try.results3 (res_tmp (v := (B true)) rfl res_nil) rfl) ⟨rfl, rfl⟩ (H.sel' [] rfl rfl)
 ·replace h := bif_f hb5 h
  refine c_skip ?_
  refine q_then ?_
  refine c_seq ?_
  refine rg ?_
  refine st (v := (Sl aaList_0 aList_0 caList_0)) (rv_move rfl) ?_
  obtain ⟨r6, hx7, h'⟩ := bind_some h
  clear h
  have h := h'; clear h'
  have hc8 := c_laws_toIntSS (aa_0 := aaList_0) (ca_0 := caList_0) hx7
  refine st_call (cx_call hc8 (ent_f hc8.fn rfl) hn0 (show Hp S0 σ0 _ ([Ch.ro 0 (Sl aaList_0 aList_0 caList_0) aList_0] ++ [Ch.ro 0 (Sl aaList_0 aList_0 caList_0) aList_0]) from (H.sel' [0, 0] rfl rfl))) wn ?_
  rintro _ σ13 ⟨_, ⟨a9, c10, K11, rfl, rfl, hK12⟩, H, -⟩
  replace H : Hp S0 σ0 σ13 [Ch.big K11, Ch.ro 0 (Sl aaList_0 aList_0 caList_0) aList_0] := H
  obtain ⟨r14, hx15, h'⟩ := bind_some h
  clear h
  have h := h'; clear h'
  have hc16 := c_spec_MeanOf (alist_0 := a9) (clist_0 := c10) hx15
  have hle := Nat.le_trans hn0 H.size
  refine st_call (cx_lend (Loan.lendB hK12.lends Loan.nil) hc16 (ent_f hc16.fn rfl) (show Hp S0 σ0 _ ([Ch.big K11] ++ ([] ++ [Ch.ro 0 (Sl aaList_0 aList_0 caList_0) aList_0])) from (H.sel' [0, 1] rfl rfl)) (by rintro _ _ _ ⟨_, _, rfl, rfl⟩; exact ⟨Ab.ownSc, trivial⟩)) wn ?_
  rintro _ σ19 ⟨_, ⟨a17, c18, rfl, rfl⟩, H, -, -⟩
  replace H : Hp S0 σ0 σ19 [Ch.own σ13.size σ13.size (Sl a17 r14 c18) r14, Ch.big K11, Ch.ro 0 (Sl aaList_0 aList_0 caList_0) aList_0] := H
  replace H := H.ownLow 0 n0 n0 rfl hle hle
  clear hle
  replace H : Hp S0 σ0 σ19 [Ch.own n0 n0 (Sl a17 r14 c18) r14, Ch.big K11, Ch.ro 0 (Sl aaList_0 aList_0 caList_0) aList_0] := H
  refine st (v := (Sl a17 r14 c18)) (rv_assign rfl) ?_
  refine w_end ?_
  refine q_then ?_
  refine c_seq ?_
  refine rg ?_
  refine st (v := (Sl aaList_0 aList_0 caList_0)) (rv_move rfl) ?_
  obtain ⟨r20, hx21, h'⟩ := bind_some h
  clear h
  have h := h'; clear h'
  have hc22 := c_laws_toIntSS (aa_0 := aaList_0) (ca_0 := caList_0) hx21
  refine st_call (cx_call hc22 (ent_f hc22.fn rfl) hn0 (show Hp S0 σ0 _ ([Ch.ro 0 (Sl aaList_0 aList_0 caList_0) aList_0] ++ [Ch.own n0 n0 (Sl a17 r14 c18) r14, Ch.big K11, Ch.ro 0 (Sl aaList_0 aList_0 caList_0) aList_0]) from (H.sel' [2, 0, 1, 2] rfl rfl))) wn ?_
  rintro _ σ27 ⟨_, ⟨a23, c24, K25, rfl, rfl, hK26⟩, H, -⟩
  replace H : Hp S0 σ0 σ27 [Ch.big K25, Ch.own n0 n0 (Sl a17 r14 c18) r14, Ch.big K11, Ch.ro 0 (Sl aaList_0 aList_0 caList_0) aList_0] := H
  refine st (v := (Sl a23 r20 c24)) (rv_assign rfl) ?_
  refine w_end ?_
  refine q_then ?_
  refine c_seq ?_
  refine rg ?_
  refine st (v := (Sl a23 r20 c24)) (rv_move rfl) ?_
  obtain ⟨r28, hx29, h'⟩ := bind_some h
  clear h
  have h := h'; clear h'
  have hc30 := c_impl_MeanOf (alist_0 := a23) (clist_0 := c24) hx29
  have hle := Nat.le_trans hn0 H.size
  refine st_call (cx_lend (Loan.lendB hK26.lends Loan.nil) hc30 (ent_f hc30.fn rfl) (show Hp S0 σ0 _ ([Ch.big K25] ++ ([] ++ [Ch.own n0 n0 (Sl a17 r14 c18) r14, Ch.big K11, Ch.ro 0 (Sl aaList_0 aList_0 caList_0) aList_0])) from (H.sel' [0, 1, 2, 3] rfl rfl)) (by rintro _ _ _ ⟨_, _, rfl, rfl, _⟩; exact ⟨Ab.ownSc, trivial⟩)) wn ?_
  rintro _ σ34 ⟨_, ⟨a31, c32, rfl, rfl, ht33⟩, H, -, -⟩
  replace H : Hp S0 σ0 σ34 [Ch.own σ27.size σ27.size (Sl a31 r28 c32) r28, Ch.big K25, Ch.own n0 n0 (Sl a17 r14 c18) r14, Ch.big K11, Ch.ro 0 (Sl aaList_0 aList_0 caList_0) aList_0] := H
  replace H := H.ownLow 0 n0 n0 rfl hle hle
  clear hle
  replace H : Hp S0 σ0 σ34 [Ch.own n0 n0 (Sl a31 r28 c32) r28, Ch.big K25, Ch.own n0 n0 (Sl a17 r14 c18) r14, Ch.big K11, Ch.ro 0 (Sl aaList_0 aList_0 caList_0) aList_0] := H
  refine st (v := (Sl a31 r28 c32)) (rv_assign rfl) ?_
  refine w_end ?_
  refine q_then ?_
  refine c_seq ?_
  refine c_seq ?_
  refine rg ?_
  refine st (v := (Sl a31 r28 c32)) (rv_move rfl) ?_
  refine st (v := (Sl a17 r14 c18)) (rv_move rfl) ?_
  obtain ⟨r35, hx36, h'⟩ := bind_some h
  clear h
  have h := h'; clear h'
  have hc37 := c_laws_eqIntS (aa_0 := a31) (ca_0 := c32) (ab_1 := a17) (cb_1 := c18) hx36
  have hle := Nat.le_trans hn0 H.size
  refine st_call (cx_lend (Loan.lend (Loan.lend Loan.nil)) hc37 (ent_f hc37.fn rfl) (show Hp S0 σ0 _ ([Ch.own n0 n0 (Sl a31 r28 c32) r28, Ch.own n0 n0 (Sl a17 r14 c18) r14] ++ ([] ++ [Ch.big K25, Ch.big K11, Ch.ro 0 (Sl aaList_0 aList_0 caList_0) aList_0])) from (H.sel' [0, 2, 1, 3, 4] rfl rfl)) (by rintro _ _ _ ⟨rfl, rfl⟩; exact trivial)) wn ?_
  rintro _ σ38 ⟨_, ⟨rfl, rfl⟩, H, -, -⟩
  replace H : Hp S0 σ0 σ38 [Ch.own n0 n0 (Sl a31 r28 c32) r28, Ch.own n0 n0 (Sl a17 r14 c18) r14, Ch.big K25, Ch.big K11, Ch.ro 0 (Sl aaList_0 aList_0 caList_0) aList_0] := H
  clear hle
  replace H : Hp S0 σ0 σ38 [Ch.own n0 n0 (Sl a31 r28 c32) r28, Ch.own n0 n0 (Sl a17 r14 c18) r14, Ch.big K25, Ch.big K11, Ch.ro 0 (Sl aaList_0 aList_0 caList_0) aList_0] := H
  refine st (v := (B (!r35))) (rv_not rfl) ?_
  refine w_end ?_
  refine q_then ?_
  refine cd_cond (!r35) rfl (fun hb39 => ?_) (fun hb39 => ?_)
  ·replace h := bif_t hb39 h
   refine c_seq ?_
   refine rg ?_
   refine st (v := (B false)) (rv_assign rfl) ?_
   refine w_end ?_
   refine q_then ?_
   refine c_ret ?_
   refine q_then_r ?_
   obtain rfl := Option.some.inj h
   exact fin_ret (v := (B false)) (results_ok Try.results3 (res_tmp (v := (B false)) rfl res_nil) rfl) ⟨rfl, rfl⟩ (H.sel' [] rfl rfl)
  ·replace h := bif_f hb39 h
   refine c_skip ?_
   refine q_then ?_
   refine c_seq ?_
   refine c_seq ?_
   refine rg ?_
   refine st (v := (Sl a23 r20 c24)) (rv_move rfl) ?_
   refine st (v := (Sl aaList_0 aList_0 caList_0)) (rv_move rfl) ?_
   obtain ⟨r40, hx41, h'⟩ := bind_some h
   clear h
   have h := h'; clear h'
   have hc42 := c_laws_toIntSS (aa_0 := aaList_0) (ca_0 := caList_0) hx41
   refine st_call (cx_call hc42 (ent_f hc42.fn rfl) hn0 (show Hp S0 σ0 _ ([Ch.ro 0 (Sl aaList_0 aList_0 caList_0) aList_0] ++ [Ch.own n0 n0 (Sl a31 r28 c32) r28, Ch.own n0 n0 (Sl a17 r14 c18) r14, Ch.big K25, Ch.big K11, Ch.ro 0 (Sl aaList_0 aList_0 caList_0) aList_0]) from (H.sel' [4, 0, 1, 2, 3, 4] rfl rfl))) wn ?_
   rintro _ σ47 ⟨_, ⟨a43, c44, K45, rfl, rfl, hK46⟩, H, -⟩
   replace H : Hp S0 σ0 σ47 [Ch.big K45, Ch.own n0 n0 (Sl a31 r28 c32) r28, Ch.own n0 n0 (Sl a17 r14 c18) r14, Ch.big K25, Ch.big K11, Ch.ro 0 (Sl aaList_0 aList_0 caList_0) aList_0] := H
   obtain ⟨r48, hx49, h'⟩ := bind_some h
   clear h
   have h := h'; clear h'
   have hc50 := c_laws_eqIntSS (aa_0 := a23) (ca_0 := c24) (ab_1 := a43) (cb_1 := c44) hx49
   have hle := Nat.le_trans hn0 H.size
   refine st_call (cx_lend (Loan.lendB hK26.lends (Loan.lendB hK46.lends Loan.nil)) hc50 (ent_f hc50.fn rfl) (show Hp S0 σ0 _ ([Ch.big K25, Ch.big K45] ++ ([] ++ [Ch.own n0 n0 (Sl a31 r28 c32) r28, Ch.own n0 n0 (Sl a17 r14 c18) r14, Ch.big K11, Ch.ro 0 (Sl aaList_0 aList_0 caList_0) aList_0])) from (H.sel' [3, 0, 1, 2, 4, 5] rfl rfl)) (by rintro _ _ _ ⟨rfl, rfl⟩; exact trivial)) wn ?_
   rintro _ σ51 ⟨_, ⟨rfl, rfl⟩, H, -, -⟩
   replace H : Hp S0 σ0 σ51 [Ch.big K25, Ch.big K45, Ch.own n0 n0 (Sl a31 r28 c32) r28, Ch.own n0 n0 (Sl a17 r14 c18) r14, Ch.big K11, Ch.ro 0 (Sl aaList_0 aList_0 caList_0) aList_0] := H
   clear hle
   replace H : Hp S0 σ0 σ51 [Ch.big K25, Ch.big K45, Ch.own n0 n0 (Sl a31 r28 c32) r28, Ch.own n0 n0 (Sl a17 r14 c18) r14, Ch.big K11, Ch.ro 0 (Sl aaList_0 aList_0 caList_0) aList_0] := H
   refine st (v := (B (!r48))) (rv_not rfl) ?_
   refine w_end ?_
   refine q_then ?_
   refine cd_cond (!r48) rfl (fun hb52 => ?_) (fun hb52 => ?_)
   ·replace h := bif_t hb52 h
    refine c_seq ?_
    refine rg ?_
    refine st (v := (B false)) (rv_assign rfl) ?_
    refine w_end ?_
    refine q_then ?_
    refine c_ret ?_
    refine q_then_r ?_
    obtain rfl := Option.some.inj h
    exact fin_ret (v := (B false)) (results_ok Try.results3 (res_tmp (v := (B false)) rfl res_nil) rfl) ⟨rfl, rfl⟩ (H.sel' [] rfl rfl)
   ·replace h := bif_f hb52 h
    refine c_skip ?_
    refine q_then ?_
    refine c_seq ?_
    refine rg ?_
    refine st (v := (I 1)) (rv_assign rfl) ?_
    refine w_end ?_
    refine q_then ?_
    refine c_seq ?_
    refine rg ?_
    refine st (v := (Sl a23 r20 c24)) (rv_move rfl) ?_
    refine st (v := (I 1)) (rv_move rfl) ?_
    obtain ⟨r53, hx54, h'⟩ := bind_some h
    clear h
    have h := h'; clear h'
    have hc55 := c_laws_markIntSS (aa_0 := a23) (ca_0 := c24) (hK := hK26) hx54
    refine st_call (cx_call hc55 (ent_f hc55.fn rfl) hn0 (show Hp S0 σ0 _ ([Ch.big K25] ++ [Ch.big K45, Ch.own n0 n0 (Sl a31 r28 c32) r28, Ch.own n0 n0 (Sl a17 r14 c18) r14, Ch.big K11, Ch.ro 0 (Sl aaList_0 aList_0 caList_0) aList_0]) from (H.sel' [0, 1, 2, 3, 4, 5] rfl rfl))) wn ?_
    rintro _ σ56 ⟨_, ⟨rfl, rfl⟩, H, -⟩
    replace H : Hp S0 σ0 σ56 [Ch.big K45, Ch.own n0 n0 (Sl a31 r28 c32) r28, Ch.own n0 n0 (Sl a17 r14 c18) r14, Ch.big K11, Ch.ro 0 (Sl aaList_0 aList_0 caList_0) aList_0] := H
    refine st (v := (I r53)) (rv_assign rfl) ?_
    refine w_end ?_
    refine q_then ?_
    refine c_seq ?_
    refine c_seq ?_
    obtain ⟨o57, hj, h'⟩ := bind_some h
    clear h
    refine c_cut (fun e a w => e = .normal ∧ ∃ (ρ : Nat → Value) (σ : St), a = fr 69 (updL ρ [(0, (Sl aaList_0 aList_0 caList_0)), (4, (Sl a17 r14 c18)), (6, (Sl a31 r28 c32)), (42, (B o57))]) ∧ w = σ.w ∧ Hp S0 σ0 σ [Ch.ro 0 (Sl aaList_0 aList_0 caList_0) aList_0, Ch.own n0 n0 (Sl a17 r14 c18) r14, Ch.own n0 n0 (Sl a31 r28 c32) r28]) ?_ ?_
    ·clear h'
     rename _ = some o57 => h
     refine rg ?_
     refine st (v := (I r53)) (rv_move rfl) ?_
     refine st (v := (B (decide (r53 < 0)))) (rv_lss (a := r53) (b := 0) rfl rfl) ?_
     refine st (v := (B (decide (r53 < 0)))) (rv_move rfl) ?_
     rcases Bool.eq_false_or_eq_true (decide (r53 < 0)) with hb58 | hb58
     ·replace h := bif_t hb58 h
      refine st_skip (congrArg some hb58) ?_
      refine st_skip (congrArg some hb58) ?_
      refine st_skip (congrArg some hb58) ?_
      refine st_skip (congrArg some hb58) ?_
      refine st (v := (B true)) (rv_pick_t (congrArg B hb58) rfl) ?_
      refine w_end ?_
      obtain rfl := Option.some.inj h
      exact ⟨rfl, _, σ56, fr_join ⟨rfl, rfl, rfl, rfl, trivial⟩, rfl, H.sel' [4, 2, 1] rfl rfl⟩
     ·replace h := bif_f hb58 h
      refine st_g (v := (Sl a31 r28 c32)) (congrArg some hb58) (rv_move rfl) ?_
      refine st_g (v := (Sl a17 r14 c18)) (congrArg some hb58) (rv_move rfl) ?_
      obtain ⟨r59, hx60, h'⟩ := bind_some h
      clear h
      have h := h'; clear h'
      have hc61 := c_laws_eqIntS (aa_0 := a31) (ca_0 := c32) (ab_1 := a17) (cb_1 := c18) hx60
      have hle := Nat.le_trans hn0 H.size
      refine st_call (cx_lend (Loan.lend (Loan.lend Loan.nil)) hc61 (ent_f hc61.fn rfl) (show Hp S0 σ0 _ ([Ch.own n0 n0 (Sl a31 r28 c32) r28, Ch.own n0 n0 (Sl a17 r14 c18) r14] ++ ([] ++ [Ch.big K45, Ch.big K11, Ch.ro 0 (Sl aaList_0 aList_0 caList_0) aList_0])) from (H.sel' [1, 2, 0, 3, 4] rfl rfl)) (by rintro _ _ _ ⟨rfl, rfl⟩; exact trivial)) (wanted_yes rfl (by exact (congrArg some hb58))) ?_
      rintro _ σ62 ⟨_, ⟨rfl, rfl⟩, H, -, -⟩
      replace H : Hp S0 σ0 σ62 [Ch.own n0 n0 (Sl a31 r28 c32) r28, Ch.own n0 n0 (Sl a17 r14 c18) r14, Ch.big K45, Ch.big K11, Ch.ro 0 (Sl aaList_0 aList_0 caList_0) aList_0] := H
      clear hle
      replace H : Hp S0 σ0 σ62 [Ch.own n0 n0 (Sl a31 r28 c32) r28, Ch.own n0 n0 (Sl a17 r14 c18) r14, Ch.big K45, Ch.big K11, Ch.ro 0 (Sl aaList_0 aList_0 caList_0) aList_0] := H
      refine st_g (v := (B (!r59))) (congrArg some hb58) (rv_not rfl) ?_
      refine st (v := (B (!r59))) (rv_pick_f (congrArg B hb58) rfl) ?_
      refine w_end ?_
      obtain rfl := Option.some.inj h
      exact ⟨rfl, _, σ62, fr_join ⟨rfl, rfl, rfl, rfl, trivial⟩, rfl, H.sel' [4, 1, 0] rfl rfl⟩
    ·clear hj
     have h := h'
     clear h' H
     rintro e a w ⟨rfl, ρ, σ63, rfl, rfl, H⟩
     refine q_then ?_
     refine cd_cond o57 rfl (fun hb64 => ?_) (fun hb64 => ?_)
     ·replace h := bif_t hb64 h
      refine c_seq ?_
      refine rg ?_
      refine st (v := (B false)) (rv_assign rfl) ?_
      refine w_end ?_
      refine q_then ?_
      refine c_ret ?_
      refine q_then_r ?_
      obtain rfl := Option.some.inj h
      exact fin_ret (v := (B false)) (results_ok Try.results3 (res_tmp (v := (B false)) rfl res_nil) rfl) ⟨rfl, rfl⟩ (H.sel' [] rfl rfl)
     ·replace h := bif_f hb64 h
      refine c_skip ?_
      refine q_then ?_
      refine c_seq ?_
      refine rg ?_
      refine st (v := (I 1)) (rv_assign rfl) ?_
      refine w_end ?_
      refine q_then ?_
      refine c_seq ?_
      refine rg ?_
      refine st (v := (Sl a31 r28 c32)) (rv_move rfl) ?_
      refine st (v := (I 1)) (rv_move rfl) ?_
      replace H := H.ownLow 2 0 0 rfl (Nat.zero_le _) (Nat.zero_le _)
      obtain ⟨r65, hx66, h'⟩ := bind_some h
      clear h
      have h := h'; clear h'
      have hc67 := c_laws_markIntS (aa_0 := a31) (ca_0 := c32) hx66
      refine st_call (cx_call hc67 (ent_f hc67.fn rfl) hn0 (show Hp S0 σ0 _ ([Ch.own 0 0 (Sl a31 r28 c32) r28] ++ [Ch.ro 0 (Sl aaList_0 aList_0 caList_0) aList_0, Ch.own n0 n0 (Sl a17 r14 c18) r14]) from (H.sel' [0, 1, 2] rfl rfl))) wn ?_
      rintro _ σ69 ⟨_, ⟨rfl, rfl, hn68⟩, H, -⟩
      replace H : Hp S0 σ0 σ69 [Ch.own 0 0 (Sl a31 r65.2 c32) r65.2, Ch.ro 0 (Sl aaList_0 aList_0 caList_0) aList_0, Ch.own n0 n0 (Sl a17 r14 c18) r14] := H
      have hsl : (Sl a31 r28 c32) = (Sl a31 r65.2 c32) := sl_len hn68.symm
      try rw [hsl]
      try rw [hsl] at H
      clear hsl
      refine st (v := (I r65.1)) (rv_assign rfl) ?_
      refine w_end ?_
      refine q_then ?_
      refine c_seq ?_
      refine rg ?_
      refine st (v := (I 1)) (rv_assign rfl) ?_
      refine w_end ?_
      refine q_then ?_
      refine c_seq ?_
      refine rg ?_
      refine st (v := (Sl a31 r65.2 c32)) (rv_move rfl) ?_
      refine st (v := (I 1)) (rv_move rfl) ?_
      obtain ⟨r70, hx71, h'⟩ := bind_some h
      clear h
      have h := h'; clear h'
      have hc72 := c_laws_heldIntS (aa_0 := a31) (ca_0 := c32) hx71
      have hle := Nat.le_trans hn0 H.size
      refine st_call (cx_lend (Loan.lend Loan.nil) hc72 (ent_f hc72.fn rfl) (show Hp S0 σ0 _ ([Ch.own 0 0 (Sl a31 r65.2 c32) r65.2] ++ ([] ++ [Ch.ro 0 (Sl aaList_0 aList_0 caList_0) aList_0, Ch.own n0 n0 (Sl a17 r14 c18) r14])) from (H.sel' [0, 1, 2] rfl rfl)) (by rintro _ _ _ ⟨rfl, rfl⟩; exact trivial)) wn ?_
      rintro _ σ73 ⟨_, ⟨rfl, rfl⟩, H, -, -⟩
      replace H : Hp S0 σ0 σ73 [Ch.own 0 0 (Sl a31 r65.2 c32) r65.2, Ch.ro 0 (Sl aaList_0 aList_0 caList_0) aList_0, Ch.own n0 n0 (Sl a17 r14 c18) r14] := H
      clear hle
      replace H : Hp S0 σ0 σ73 [Ch.own 0 0 (Sl a31 r65.2 c32) r65.2, Ch.ro 0 (Sl aaList_0 aList_0 caList_0) aList_0, Ch.own n0 n0 (Sl a17 r14 c18) r14] := H
      refine st (v := (I r70)) (rv_assign rfl) ?_
      refine w_end ?_
      refine q_then ?_
      refine c_seq ?_
      refine c_seq ?_
      refine rg ?_
      refine st (v := (I r70)) (rv_move rfl) ?_
      refine st (v := (B (decide (r70 < 0)))) (rv_lss (a := r70) (b := 0) rfl rfl) ?_
      refine w_end ?_
      refine q_then ?_
      refine cd_cond (decide (r70 < 0)) rfl (fun hb74 => ?_) (fun hb74 => ?_)
      ·replace h := bif_t hb74 h
       refine c_seq ?_
       refine rg ?_
       refine st (v := (B false)) (rv_assign rfl) ?_
       refine w_end ?_
       refine q_then ?_
       refine c_ret ?_
       refine q_then_r ?_
       obtain rfl := Option.some.inj h
       exact fin_ret (v := (B false)) (results_ok Try.results3 (res_tmp (v := (B false)) rfl res_nil) rfl) ⟨rfl, rfl⟩ (H.sel' [] rfl rfl)
      ·replace h := bif_f hb74 h
       refine c_skip ?_
       refine q_then ?_
       refine c_seq ?_
       refine c_seq ?_
       refine rg ?_
       refine st (v := (I r70)) (rv_move rfl) ?_
       refine st (v := (I r65.1)) (rv_move rfl) ?_
       refine st (v := (B (r70 != r65.1))) (rv_neq (a := r70) (b := r65.1) rfl rfl) ?_
       refine w_end ?_
       refine q_then ?_
       refine cd_cond (r70 != r65.1) rfl (fun hb75 => ?_) (fun hb75 => ?_)
       ·replace h := bif_t hb75 h
        refine c_seq ?_
        refine rg ?_
        refine st (v := (B false)) (rv_assign rfl) ?_
        refine w_end ?_
        refine q_then ?_
        refine c_ret ?_
        refine q_then_r ?_
        obtain rfl := Option.some.inj h
        exact fin_ret (v := (B false)) (results_ok Try.results3 (res_tmp (v := (B false)) rfl res_nil) rfl) ⟨rfl, rfl⟩ (H.sel' [] rfl rfl)
       ·replace h := bif_f hb75 h
        refine c_skip ?_
        refine q_then ?_
        refine c_seq ?_
        refine rg ?_
        refine st (v := (Sl aaList_0 aList_0 caList_0)) (rv_move rfl) ?_
        obtain ⟨r76, hx77, h'⟩ := bind_some h
        clear h
        have h := h'; clear h'
        have hc78 := c_laws_toIntSS (aa_0 := aaList_0) (ca_0 := caList_0) hx77
        refine st_call (cx_call hc78 (ent_f hc78.fn rfl) hn0 (show Hp S0 σ0 _ ([Ch.ro 0 (Sl aaList_0 aList_0 caList_0) aList_0] ++ [Ch.own 0 0 (Sl a31 r65.2 c32) r65.2, Ch.ro 0 (Sl aaList_0 aList_0 caList_0) aList_0, Ch.own n0 n0 (Sl a17 r14 c18) r14]) from (H.sel' [1, 0, 1, 2] rfl rfl))) wn ?_
        rintro _ σ83 ⟨_, ⟨a79, c80, K81, rfl, rfl, hK82⟩, H, -⟩
        replace H : Hp S0 σ0 σ83 [Ch.big K81, Ch.own 0 0 (Sl a31 r65.2 c32) r65.2, Ch.ro 0 (Sl aaList_0 aList_0 caList_0) aList_0, Ch.own n0 n0 (Sl a17 r14 c18) r14] := H
        obtain ⟨r84, hx85, h'⟩ := bind_some h
        clear h
        have h := h'; clear h'
        have hc86 := c_impl_MeanOf (alist_0 := a79) (clist_0 := c80) hx85
        have hle := Nat.le_trans hn0 H.size
        refine st_call (cx_lend (Loan.lendB hK82.lends Loan.nil) hc86 (ent_f hc86.fn rfl) (show Hp S0 σ0 _ ([Ch.big K81] ++ ([] ++ [Ch.own 0 0 (Sl a31 r65.2 c32) r65.2, Ch.ro 0 (Sl aaList_0 aList_0 caList_0) aList_0, Ch.own n0 n0 (Sl a17 r14 c18) r14])) from (H.sel' [0, 1, 2, 3] rfl rfl)) (by rintro _ _ _ ⟨_, _, rfl, rfl, _⟩; exact ⟨Ab.ownSc, trivial⟩)) wn ?_
        rintro _ σ90 ⟨_, ⟨a87, c88, rfl, rfl, ht89⟩, H, -, -⟩
        replace H : Hp S0 σ0 σ90 [Ch.own σ83.size σ83.size (Sl a87 r84 c88) r84, Ch.big K81, Ch.own 0 0 (Sl a31 r65.2 c32) r65.2, Ch.ro 0 (Sl aaList_0 aList_0 caList_0) aList_0, Ch.own n0 n0 (Sl a17 r14 c18) r14] := H
        replace H := H.ownLow 0 n0 n0 rfl hle hle
        clear hle
        replace H : Hp S0 σ0 σ90 [Ch.own n0 n0 (Sl a87 r84 c88) r84, Ch.big K81, Ch.own 0 0 (Sl a31 r65.2 c32) r65.2, Ch.ro 0 (Sl aaList_0 aList_0 caList_0) aList_0, Ch.own n0 n0 (Sl a17 r14 c18) r14] := H
        refine st (v := (Sl a87 r84 c88)) (rv_assign rfl) ?_
        refine w_end ?_
        refine q_then ?_
        refine c_seq ?_
        refine c_seq ?_
        refine rg ?_
        refine st (v := (Sl a87 r84 c88)) (rv_move rfl) ?_
        refine st (v := (Sl a17 r14 c18)) (rv_move rfl) ?_
        obtain ⟨σ91, hw92, H, -⟩ := H.pub 0 rfl (Nat.le_refl _)
        rw [← hw92]; clear hw92
        obtain ⟨σ93, hw94, H, -⟩ := H.pub 4 rfl (Nat.le_refl _)
        rw [← hw94]; clear hw94
        replace H := H.roLow 1 0 rfl (Nat.zero_le _)
        replace H := H.roLow 1 0 rfl (Nat.zero_le _)
        obtain ⟨r95, hx96, h'⟩ := bind_some h
        clear h
        have h := h'; clear h'
        have hc97 := c_laws_eqIntS (aa_0 := a87) (ca_0 := c88) (ab_1 := a17) (cb_1 := c18) hx96
        refine st_call (cx_call hc97 (ent_f hc97.fn rfl) hn0 (show Hp S0 σ0 _ ([Ch.ro 0 (Sl a87 r84 c88) r84, Ch.ro 0 (Sl a17 r14 c18) r14] ++ [Ch.ro 0 (Sl a17 r14 c18) r14, Ch.ro 0 (Sl a87 r84 c88) r84, Ch.ro n0 (Sl a17 r14 c18) r14, Ch.ro n0 (Sl a87 r84 c88) r84, Ch.big K81, Ch.own 0 0 (Sl a31 r65.2 c32) r65.2, Ch.ro 0 (Sl aaList_0 aList_0 caList_0) aList_0]) from (H.sel' [1, 0, 0, 1, 2, 3, 4, 5, 6] rfl rfl))) wn ?_
        rintro _ σ98 ⟨_, ⟨rfl, rfl⟩, H, -⟩
        replace H : Hp S0 σ0 σ98 [Ch.ro 0 (Sl a17 r14 c18) r14, Ch.ro 0 (Sl a87 r84 c88) r84, Ch.ro n0 (Sl a17 r14 c18) r14, Ch.ro n0 (Sl a87 r84 c88) r84, Ch.big K81, Ch.own 0 0 (Sl a31 r65.2 c32) r65.2, Ch.ro 0 (Sl aaList_0 aList_0 caList_0) aList_0] := H
        refine st (v := (B (!r95))) (rv_not rfl) ?_
        refine w_end ?_
        refine q_then ?_
        refine cd_cond (!r95) rfl (fun hb99 => ?_) (fun hb99 => ?_)
        ·replace h := bif_t hb99 h
         refine c_seq ?_
         refine rg ?_
         refine st (v := (B false)) (rv_assign rfl) ?_
         refine w_end ?_
         refine q_then ?_
         refine c_ret ?_
         refine q_then_r ?_
         obtain rfl := Option.some.inj h
         exact fin_ret (v := (B false)) (results_ok Try.results3 (res_tmp (v := (B false)) rfl res_nil) rfl) ⟨rfl, rfl⟩ (H.sel' [] rfl rfl)
        ·replace h := bif_f hb99 h
         refine c_skip ?_
         refine q_then ?_
         refine c_seq ?_
         refine rg ?_
         refine st (v := (I 1)) (rv_assign rfl) ?_
         refine w_end ?_
         refine q_then ?_
         refine c_seq ?_
         refine rg ?_
         refine st (v := (Sl a31 r65.2 c32)) (rv_move rfl) ?_
         refine st (v := (I 1)) (rv_move rfl) ?_
         obtain ⟨σ100, hw101, H, -⟩ := H.pub 5 rfl (Nat.le_refl _)
         rw [← hw101]; clear hw101
         obtain ⟨r102, hx103, h'⟩ := bind_some h
         clear h
         have h := h'; clear h'
         have hc104 := c_laws_heldIntS (aa_0 := a31) (ca_0 := c32) hx103
         refine st_call (cx_call hc104 (ent_f hc104.fn rfl) hn0 (show Hp S0 σ0 _ ([Ch.ro 0 (Sl a31 r65.2 c32) r65.2] ++ [Ch.ro 0 (Sl a31 r65.2 c32) r65.2, Ch.ro 0 (Sl a17 r14 c18) r14, Ch.ro 0 (Sl a87 r84 c88) r84, Ch.ro n0 (Sl a17 r14 c18) r14, Ch.ro n0 (Sl a87 r84 c88) r84, Ch.big K81, Ch.ro 0 (Sl aaList_0 aList_0 caList_0) aList_0]) from (H.sel' [0, 0, 1, 2, 3, 4, 5, 6] rfl rfl))) wn ?_
         rintro _ σ105 ⟨_, ⟨rfl, rfl⟩, H, -⟩
         replace H : Hp S0 σ0 σ105 [Ch.ro 0 (Sl a31 r65.2 c32) r65.2, Ch.ro 0 (Sl a17 r14 c18) r14, Ch.ro 0 (Sl a87 r84 c88) r84, Ch.ro n0 (Sl a17 r14 c18) r14, Ch.ro n0 (Sl a87 r84 c88) r84, Ch.big K81, Ch.ro 0 (Sl aaList_0 aList_0 caList_0) aList_0] := H
         refine st (v := (I r102)) (rv_assign rfl) ?_
         refine w_end ?_
         refine q_then ?_
         refine c_seq ?_
         refine c_seq ?_
         refine rg ?_
         refine st (v := (I r102)) (rv_move rfl) ?_
         refine st (v := (B (decide (r102 < 0)))) (rv_lss (a := r102) (b := 0) rfl rfl) ?_
         refine w_end ?_
         refine q_then ?_
         refine cd_cond (decide (r102 < 0)) rfl (fun hb106 => ?_) (fun hb106 => ?_)
         ·replace h := bif_t hb106 h
          refine c_seq ?_
          refine rg ?_
          refine st (v := (B false)) (rv_assign rfl) ?_
          refine w_end ?_
          refine q_then ?_
          refine c_ret ?_
          refine q_then_r ?_
          obtain rfl := Option.some.inj h
          exact fin_ret (v := (B false)) (results_ok Try.results3 (res_tmp (v := (B false)) rfl res_nil) rfl) ⟨rfl, rfl⟩ (H.sel' [] rfl rfl)
         ·replace h := bif_f hb106 h
          refine c_skip ?_
          refine q_then ?_
          refine c_seq ?_
          refine c_seq ?_
          refine rg ?_
          refine st (v := (I r102)) (rv_move rfl) ?_
          refine st (v := (I r65.1)) (rv_move rfl) ?_
          refine st (v := (B (r102 != r65.1))) (rv_neq (a := r102) (b := r65.1) rfl rfl) ?_
          refine w_end ?_
          refine q_then ?_
          refine cd_cond (r102 != r65.1) rfl (fun hb107 => ?_) (fun hb107 => ?_)
          ·replace h := bif_t hb107 h
           refine c_seq ?_
           refine rg ?_
           refine st (v := (B false)) (rv_assign rfl) ?_
           refine w_end ?_
           refine q_then ?_
           refine c_ret ?_
           refine q_then_r ?_
           obtain rfl := Option.some.inj h
           exact fin_ret (v := (B false)) (results_ok Try.results3 (res_tmp (v := (B false)) rfl res_nil) rfl) ⟨rfl, rfl⟩ (H.sel' [] rfl rfl)
          ·replace h := bif_f hb107 h
           refine c_skip ?_
           refine q_then ?_
           refine c_seq ?_
           refine rg ?_
           refine st (v := (B true)) (rv_assign rfl) ?_
           refine w_end ?_
           refine q_then ?_
           refine c_ret ?_
           obtain rfl := Option.some.inj h
           exact fin_ret (v := (B true)) (results_ok Try.results3 (res_tmp (v := (B true)) rfl res_nil) rfl) ⟨rfl, rfl⟩ (H.sel' [] rfl rfl)

end Go.Vs
