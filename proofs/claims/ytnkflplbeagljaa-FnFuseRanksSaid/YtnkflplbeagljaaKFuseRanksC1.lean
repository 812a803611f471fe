/- The functions compute what their models say. -/
import Derived.Test.YtnkflplbeagljaaKFuseRanksM
import Derived.Test.YtnkflplbeagljaaFuseRanksEng2
import Derived.Test.YtnkflplbeagljaaProg
set_option linter.unusedVariables false
set_option linter.unusedSimpArgs false
set_option maxRecDepth 20000
namespace Go.Vs
open Go Go.Proofs
attribute [local irreducible] Code.wp Code.wpIn wpList wpListIn wpQuiet Calls CallsIn

theorem ti3 : TI Try.prog 3 (.int .i64 0) 1 8 := TI.mk' (by kernel_rfl)
theorem ti5 : TI Try.prog 5 (.int .u8 0) 1 1 := TI.mk' (by kernel_rfl)
theorem ti22 : TI Try.prog 22 (.slice none 0 0) 1 24 := TI.mk' (by kernel_rfl)
theorem ti24 : TI Try.prog 24 (.slice none 0 0) 1 24 := TI.mk' (by kernel_rfl)
theorem ti27 : TI Try.prog 27 (.slice none 0 0) 1 24 := TI.mk' (by kernel_rfl)
theorem ti31 : TI Try.prog 31 (.agg #[(.int .i64 0), (.int .i64 0)]) 2 16 := TI.mk' (by kernel_rfl)
theorem ti34 : TI Try.prog 34 (.agg #[(.int .i64 0), (.slice none 0 0), (.int .i64 0)]) 3 40 := TI.mk' (by kernel_rfl)
theorem ti71 : TI Try.prog 71 (.map none) 1 8 := TI.mk' (by kernel_rfl)
theorem ti80 : TI Try.prog 80 (.agg #[(.slice none 0 0), (.int .i64 0)]) 2 32 := TI.mk' (by kernel_rfl)
theorem ti146 : TI Try.prog 146 (.int .u64 0) 1 8 := TI.mk' (by kernel_rfl)
theorem bp31 {fs : Array Field} (hT : Try.prog.underlying 31 = some (.struct fs)) (w : World) : (fs.mapM (fun f => do pure (f.offset, ← sizeOf f.type)) : Sem (Array (Nat × Nat))).run Try.prog w = .ok #[(0, 1), (1, 1)] w := by
  rw [Try.underlying31] at hT; cases hT
  simp [run_typeInfo ti3]
theorem bp34 {fs : Array Field} (hT : Try.prog.underlying 34 = some (.struct fs)) (w : World) : (fs.mapM (fun f => do pure (f.offset, ← sizeOf f.type)) : Sem (Array (Nat × Nat))).run Try.prog w = .ok #[(0, 1), (1, 1), (2, 1)] w := by
  rw [Try.underlying34] at hT; cases hT
  simp [run_typeInfo ti24, run_typeInfo ti3]
theorem bp80 {fs : Array Field} (hT : Try.prog.underlying 80 = some (.struct fs)) (w : World) : (fs.mapM (fun f => do pure (f.offset, ← sizeOf f.type)) : Sem (Array (Nat × Nat))).run Try.prog w = .ok #[(0, 1), (1, 1)] w := by
  rw [Try.underlying80] at hT; cases hT
  simp [run_typeInfo ti22, run_typeInfo ti3]

theorem c_laws_isIn {list_0 : List Int} {n_1 : Int} {alist_0 : Option Addr} {clist_0 : Nat} {r : Bool} (h : M.laws_isIn list_0 n_1 = some r) :
    Cal2 Try.prog 15 [(Sl alist_0 list_0 clist_0), (I n_1)] [Ch.ro 0 (Sl alist_0 list_0 clist_0) list_0] (fun n0 v L => v = (B r) ∧ L = []) := by
 refine cal2 (n := 18) Try.func15 rfl rfl rfl rfl ?_
 intro S0 σ0 n0 hn0 H
 unfold M.laws_isIn at h
 refine c_seq ?_
 refine rg ?_
 refine st (v := (B false)) (rv_assign rfl) ?_
 refine w_end ?_
 refine q_then ?_
 refine c_seq ?_
 refine c_seq ?_
 refine rg ?_
 refine st (v := (I 0)) (rv_assign rfl) ?_
 refine w_end ?_
 refine q_then ?_
 obtain ⟨o1, hj, h'⟩ := bind_some h
 clear h
 refine c_cut (fun e a w => (∃ t, o1 = (.inl t) ∧ e = .normal ∧ ∃ (ρ : Nat → Value) (σ : St), a = fr 18 (updL ρ []) ∧ w = σ.w ∧ Hp S0 σ0 σ []) ∨ (∃ t, o1 = (.inr t) ∧ e = .ret ∧ ∃ (ρ : Nat → Value) (σ : St), a = fr 18 (updL ρ [(4, (B t))]) ∧ w = σ.w ∧ Hp S0 σ0 σ [])) ?_ ?_
 ·clear h'
  rename _ = some o1 => h
  refine c_blk ?_
  refine wp_loopM _ h (fun s2 a w => ∃ (ρ : Nat → Value) (σ : St), a = fr 18 (updL ρ [(0, (Sl alist_0 list_0 clist_0)), (1, (I n_1)), (5, (I s2))]) ∧ w = σ.w ∧ Hp S0 σ0 σ [Ch.ro 0 (Sl alist_0 list_0 clist_0) list_0]) ⟨_, σ0, fr_join ⟨rfl, rfl, rfl, trivial⟩, rfl, H.sel' [0] rfl rfl⟩ ?_
  clear h H
  rintro s2 a w o ⟨ρ, σ3, rfl, rfl, H⟩ h hres
  refine c_seq ?_
  refine c_seq ?_
  refine rg ?_
  refine st (v := (I s2)) (rv_move rfl) ?_
  refine st (v := (Sl alist_0 list_0 clist_0)) (rv_move rfl) ?_
  refine st (v := (I (list_0.length : Int))) (rv_len Try.underlying24 rfl) ?_
  refine st (v := (B (decide (s2 < (list_0.length : Int))))) (rv_lss (a := s2) (b := (list_0.length : Int)) rfl rfl) ?_
  refine w_end ?_
  refine q_then ?_
  refine cd_cond (decide (s2 < (list_0.length : Int))) rfl (fun hb4 => ?_) (fun hb4 => ?_)
  ·replace h := bif_t hb4 h
   refine c_skip ?_
   refine q_then ?_
   refine c_seq ?_
   refine c_blk ?_
   refine c_seq ?_
   refine rg ?_
   refine st (v := (Sl alist_0 list_0 clist_0)) (rv_move rfl) ?_
   refine st (v := (I s2)) (rv_move rfl) ?_
   obtain ⟨x5, hx6, h'⟩ := bind_some h
   clear h
   have h := h'; clear h'
   obtain ⟨b8, o9, hi7, -⟩ := (H.ro 0 rfl).ix hx6
   refine st (v := (pt b8 o9)) (rv_ix Try.underlying24 ti3 rfl rfl hi7) ?_
   have hc10 := ((H.ro 0 rfl).at hx6 hi7).int
   refine st (v := (I x5)) (rv_load1 Try.underlying3 rfl rfl hc10) ?_
   refine st (v := (I n_1)) (rv_move rfl) ?_
   refine st (v := (B (x5 == n_1))) (rv_eql (a := x5) (b := n_1) rfl rfl) ?_
   refine w_end ?_
   refine q_then ?_
   refine cd_cond (x5 == n_1) rfl (fun hb11 => ?_) (fun hb11 => ?_)
   ·replace h := bif_t hb11 h
    refine c_seq ?_
    refine rg ?_
    refine st (v := (B true)) (rv_assign rfl) ?_
    refine w_end ?_
    refine q_then ?_
    refine c_ret ?_
    refine q_blk_r ?_
    refine q_then_r ?_
    refine q_then_r ?_
    refine q_blk_r ?_
    obtain rfl := Option.some.inj h
    obtain rfl := hres _ rfl
    exact .inr (⟨_, rfl, rfl, _, σ3, fr_join ⟨rfl, trivial⟩, rfl, H.sel' [] rfl rfl⟩)
   ·replace h := bif_f hb11 h
    refine c_skip ?_
    refine q_blk ?_
    refine q_then ?_
    refine rg ?_
    refine st (v := (I s2)) (rv_move rfl) ?_
    refine st (v := (I (w64 (s2 + 1)))) (rv_add (a := s2) (b := 1) rfl rfl) ?_
    refine st (v := (I (w64 (s2 + 1)))) (rv_assign rfl) ?_
    refine w_end ?_
    refine q_then ?_
    obtain rfl := Option.some.inj h
    exact ⟨_, rfl, _, σ3, fr_join ⟨rfl, rfl, rfl, trivial⟩, rfl, H.sel' [0] rfl rfl⟩
  ·replace h := bif_f hb4 h
   refine c_exit ?_
   refine q_then_x ?_
   refine q_then_x ?_
   refine q_blk_hit ?_
   obtain rfl := Option.some.inj h
   obtain rfl := hres _ rfl
   exact .inl ⟨_, rfl, rfl, _, σ3, fr_join trivial, rfl, H.sel' [] rfl rfl⟩
 ·clear hj
  have h := h'
  clear h' H
  rintro e a w (⟨t12, rfl, rfl, ρ, σ13, rfl, rfl, H⟩ | ⟨t14, rfl, rfl, ρ, σ15, rfl, rfl, H⟩)
  ·replace h := selim_l h
   refine q_then ?_
   refine c_seq ?_
   refine rg ?_
   refine st (v := (B false)) (rv_assign rfl) ?_
   refine w_end ?_
   refine q_then ?_
   refine c_ret ?_
   obtain rfl := Option.some.inj h
   exact fin_ret (v := (B false)) (results_ok Try.results15 (res_tmp (v := (B false)) rfl res_nil) rfl) ⟨rfl, rfl⟩ (H.sel' [] rfl rfl)
  ·replace h := selim_r h
   refine q_then_r ?_
   obtain rfl := Option.some.inj h
   exact fin_ret (v := (B t14)) (results_ok Try.results15 (res_tmp (v := (B t14)) rfl res_nil) rfl) ⟨rfl, rfl⟩ (H.sel' [] rfl rfl)

theorem c_impl_validKey {key_0 : Int}  {r : Bool} (h : M.impl_validKey key_0 = some r) :
    Cal2 Try.prog 75 [(I key_0)] [] (fun n0 v L => v = (B r) ∧ L = []) := by
 refine cal2 (n := 9) Try.func75 rfl rfl rfl rfl ?_
 intro S0 σ0 n0 hn0 H
 unfold M.impl_validKey at h
 refine c_seq ?_
 refine rg ?_
 refine st (v := (B false)) (rv_assign rfl) ?_
 refine w_end ?_
 refine q_then ?_
 refine c_seq ?_
 refine rg ?_
 refine st (v := (I key_0)) (rv_move rfl) ?_
 refine st (v := (B (decide (1 ≤ key_0)))) (rv_geq (a := key_0) (b := 1) rfl rfl) ?_
 refine st (v := (B (decide (1 ≤ key_0)))) (rv_move rfl) ?_
 rcases Bool.eq_false_or_eq_true (decide (1 ≤ key_0)) with hb1 | hb1
 ·replace h := bif_t hb1 h
  refine st_g (v := (I key_0)) (congrArg some hb1) (rv_move rfl) ?_
  refine st_g (v := (B (decide (key_0 ≤ 99)))) (congrArg some hb1) (rv_leq (a := key_0) (b := 99) rfl rfl) ?_
  refine st (v := (B (decide (key_0 ≤ 99)))) (rv_pick_t (congrArg B hb1) rfl) ?_
  refine st (v := (B (decide (key_0 ≤ 99)))) (rv_assign rfl) ?_
  refine w_end ?_
  refine q_then ?_
  refine c_ret ?_
  obtain rfl := Option.some.inj h
  exact fin_ret (v := (B (decide (key_0 ≤ 99)))) (results_ok Try.results75 (res_tmp (v := (B (decide (key_0 ≤ 99)))) rfl res_nil) rfl) ⟨rfl, rfl⟩ (H.sel' [] rfl rfl)
 ·replace h := bif_f hb1 h
  refine st_skip (congrArg some hb1) ?_
  refine st_skip (congrArg some hb1) ?_
  refine st (v := (B false)) (rv_pick_f (congrArg B hb1) rfl) ?_
  refine st (v := (B false)) (rv_assign rfl) ?_
  refine w_end ?_
  refine q_then ?_
  refine c_ret ?_
  obtain rfl := Option.some.inj h
  exact fin_ret (v := (B false)) (results_ok Try.results75 (res_tmp (v := (B false)) rfl res_nil) rfl) ⟨rfl, rfl⟩ (H.sel' [] rfl rfl)

theorem c_impl_validHit {h_0 : Int × Int}  {r : Bool} (h : M.impl_validHit h_0 = some r) :
    Cal2 Try.prog 45 [(.agg #[(I h_0.1), (I h_0.2)])] [] (fun n0 v L => v = (B r) ∧ L = []) := by
 refine cal2 (n := 16) Try.func45 rfl rfl rfl rfl ?_
 intro S0 σ0 n0 hn0 H
 unfold M.impl_validHit at h
 refine c_seq ?_
 refine rg ?_
 refine st_ex (ex_box (cs := [(I h_0.1), (I h_0.2)]) H hn0 rfl rfl) wn ?_
 rintro _ σ2 ⟨b1, rfl, H, -⟩
 refine st (v := (B false)) (rv_assign rfl) ?_
 refine w_end ?_
 refine q_then ?_
 refine c_seq ?_
 refine rg ?_
 refine st (v := (pt b1 0)) (rv_fieldAddr (off := 0) (ft := 3) Try.underlying31 rfl ti3 rfl rfl) ?_
 have hc3 := H.cell (u := (I h_0.1)) (o' := 0) 0 0 rfl rfl rfl
 refine st (v := (I h_0.1)) (rv_load1 Try.underlying3 rfl rfl hc3) ?_
 obtain ⟨r4, hx5, h'⟩ := bind_some h
 clear h
 have h := h'; clear h'
 have hc6 := c_impl_validKey hx5
 refine st_call (cx_call hc6 (ent_f hc6.fn rfl) hn0 (show Hp S0 σ0 _ ([] ++ [Ch.bx n0 b1 0 [(I h_0.1), (I h_0.2)] [] []]) from (H.sel' [0] rfl rfl))) wn ?_
 rintro _ σ7 ⟨_, ⟨rfl, rfl⟩, H, -⟩
 replace H : Hp S0 σ0 σ7 [Ch.bx n0 b1 0 [(I h_0.1), (I h_0.2)] [] []] := H
 refine st (v := (B r4)) (rv_move rfl) ?_
 rcases Bool.eq_false_or_eq_true r4 with hb8 | hb8
 ·replace h := bif_t hb8 h
  refine st_g (v := (pt b1 1)) (congrArg some hb8) (rv_fieldAddr (off := 1) (ft := 3) Try.underlying31 rfl ti3 rfl rfl) ?_
  have hc9 := H.cell (u := (I h_0.2)) (o' := 1) 0 1 rfl rfl rfl
  refine st_g (v := (I h_0.2)) (congrArg some hb8) (rv_load1 Try.underlying3 rfl rfl hc9) ?_
  refine st_g (v := (B (decide (0 ≤ h_0.2)))) (congrArg some hb8) (rv_geq (a := h_0.2) (b := 0) rfl rfl) ?_
  refine st (v := (B (decide (0 ≤ h_0.2)))) (rv_pick_t (congrArg B hb8) rfl) ?_
  refine st (v := (B (decide (0 ≤ h_0.2)))) (rv_move rfl) ?_
  rcases Bool.eq_false_or_eq_true (decide (0 ≤ h_0.2)) with hb10 | hb10
  ·replace h := bif_t hb10 h
   refine st_g (v := (pt b1 1)) (congrArg some hb10) (rv_fieldAddr (off := 1) (ft := 3) Try.underlying31 rfl ti3 rfl rfl) ?_
   have hc11 := H.cell (u := (I h_0.2)) (o' := 1) 0 1 rfl rfl rfl
   refine st_g (v := (I h_0.2)) (congrArg some hb10) (rv_load1 Try.underlying3 rfl rfl hc11) ?_
   refine st_g (v := (B (decide (h_0.2 ≤ 1000000)))) (congrArg some hb10) (rv_leq (a := h_0.2) (b := 1000000) rfl rfl) ?_
   refine st (v := (B (decide (h_0.2 ≤ 1000000)))) (rv_pick_t (congrArg B hb10) rfl) ?_
   refine st (v := (B (decide (h_0.2 ≤ 1000000)))) (rv_assign rfl) ?_
   refine w_end ?_
   refine q_then ?_
   refine c_ret ?_
   obtain rfl := Option.some.inj h
   exact fin_ret (v := (B (decide (h_0.2 ≤ 1000000)))) (results_ok Try.results45 (res_tmp (v := (B (decide (h_0.2 ≤ 1000000)))) rfl res_nil) rfl) ⟨rfl, rfl⟩ (H.sel' [] rfl rfl)
  ·replace h := bif_f hb10 h
   refine st_skip (congrArg some hb10) ?_
   refine st_skip (congrArg some hb10) ?_
   refine st_skip (congrArg some hb10) ?_
   refine st (v := (B false)) (rv_pick_f (congrArg B hb10) rfl) ?_
   refine st (v := (B false)) (rv_assign rfl) ?_
   refine w_end ?_
   refine q_then ?_
   refine c_ret ?_
   obtain rfl := Option.some.inj h
   exact fin_ret (v := (B false)) (results_ok Try.results45 (res_tmp (v := (B false)) rfl res_nil) rfl) ⟨rfl, rfl⟩ (H.sel' [] rfl rfl)
 ·replace h := bif_f hb8 h
  refine st_skip (congrArg some hb8) ?_
  refine st_skip (congrArg some hb8) ?_
  refine st_skip (congrArg some hb8) ?_
  refine st (v := (B false)) (rv_pick_f (congrArg B hb8) rfl) ?_
  refine st (v := (B false)) (rv_move rfl) ?_
  refine st_skip rfl ?_
  refine st_skip rfl ?_
  refine st_skip rfl ?_
  refine st (v := (B false)) (rv_pick_f rfl rfl) ?_
  refine st (v := (B false)) (rv_assign rfl) ?_
  refine w_end ?_
  refine q_then ?_
  refine c_ret ?_
  obtain rfl := Option.some.inj h
  exact fin_ret (v := (B false)) (results_ok Try.results45 (res_tmp (v := (B false)) rfl res_nil) rfl) ⟨rfl, rfl⟩ (H.sel' [] rfl rfl)

theorem c_cmp_Or_int {vals_0 : List Int} {avals_0 : Option Addr} {cvals_0 : Nat} {r : Int} (h : M.cmp_Or_int vals_0 = some r) :
    Cal2 Try.prog 58 [(Sl avals_0 vals_0 cvals_0)] [Ch.ro 0 (Sl avals_0 vals_0 cvals_0) vals_0] (fun n0 v L => v = (I r) ∧ L = []) := by
 refine cal2 (n := 18) Try.func58 rfl rfl rfl rfl ?_
 intro S0 σ0 n0 hn0 H
 unfold M.cmp_Or_int at h
 refine c_seq ?_
 refine rg ?_
 refine st (v := (I 0)) (rv_assign rfl) ?_
 refine w_end ?_
 refine q_then ?_
 refine c_seq ?_
 refine rg ?_
 refine st (v := (I 0)) (rv_assign rfl) ?_
 refine w_end ?_
 refine q_then ?_
 refine c_seq ?_
 refine c_seq ?_
 refine rg ?_
 refine st (v := (Sl avals_0 vals_0 cvals_0)) (rv_move rfl) ?_
 refine st (v := (I (vals_0.length : Int))) (rv_len Try.underlying24 rfl) ?_
 refine st (v := (I 0)) (rv_move rfl) ?_
 refine w_end ?_
 refine q_then ?_
 obtain ⟨o1, hj, h'⟩ := bind_some h
 clear h
 refine c_cut (fun e a w => (∃ t, o1 = (.inl t) ∧ e = .normal ∧ ∃ (ρ : Nat → Value) (σ : St), a = fr 18 (updL ρ [(3, (I 0))]) ∧ w = σ.w ∧ Hp S0 σ0 σ []) ∨ (∃ t, o1 = (.inr t) ∧ e = .ret ∧ ∃ (ρ : Nat → Value) (σ : St), a = fr 18 (updL ρ [(2, (I t))]) ∧ w = σ.w ∧ Hp S0 σ0 σ [])) ?_ ?_
 ·clear h'
  rename _ = some o1 => h
  refine c_blk ?_
  refine wp_loopM _ h (fun s2 a w => ∃ (ρ : Nat → Value) (σ : St), a = fr 18 (updL ρ [(3, (I 0)), (6, (Sl avals_0 vals_0 cvals_0)), (7, (I (vals_0.length : Int))), (8, (I s2))]) ∧ w = σ.w ∧ Hp S0 σ0 σ [Ch.ro 0 (Sl avals_0 vals_0 cvals_0) vals_0]) ⟨_, σ0, fr_join ⟨rfl, rfl, rfl, rfl, trivial⟩, rfl, H.sel' [0] rfl rfl⟩ ?_
  clear h H
  rintro s2 a w o ⟨ρ, σ3, rfl, rfl, H⟩ h hres
  refine c_seq ?_
  refine rg ?_
  refine st (v := (B (decide (s2 < (vals_0.length : Int))))) (rv_lss (a := s2) (b := (vals_0.length : Int)) rfl rfl) ?_
  refine w_end ?_
  refine q_then ?_
  refine c_seq ?_
  refine cd_cond (decide (s2 < (vals_0.length : Int))) rfl (fun hb4 => ?_) (fun hb4 => ?_)
  ·replace h := bif_t hb4 h
   refine c_skip ?_
   refine q_then ?_
   refine c_seq ?_
   refine c_blk ?_
   refine c_seq ?_
   refine rg ?_
   obtain ⟨x5, hx6, h'⟩ := bind_some h
   clear h
   have h := h'; clear h'
   obtain ⟨b8, o9, hi7, -⟩ := (H.ro 0 rfl).ix hx6
   refine st (v := (pt b8 o9)) (rv_ix Try.underlying24 ti3 rfl rfl hi7) ?_
   have hc10 := ((H.ro 0 rfl).at hx6 hi7).int
   refine st (v := (I x5)) (rv_load1 Try.underlying3 rfl rfl hc10) ?_
   refine st (v := (I x5)) (rv_assign rfl) ?_
   refine w_end ?_
   refine q_then ?_
   refine c_seq ?_
   refine rg ?_
   refine st (v := (I x5)) (rv_move rfl) ?_
   refine st (v := (I 0)) (rv_move rfl) ?_
   refine st (v := (B (x5 != 0))) (rv_neq (a := x5) (b := 0) rfl rfl) ?_
   refine w_end ?_
   refine q_then ?_
   refine cd_cond (x5 != 0) rfl (fun hb11 => ?_) (fun hb11 => ?_)
   ·replace h := bif_t hb11 h
    refine c_seq ?_
    refine rg ?_
    refine st (v := (I x5)) (rv_move rfl) ?_
    refine st (v := (I x5)) (rv_assign rfl) ?_
    refine w_end ?_
    refine q_then ?_
    refine c_ret ?_
    refine q_blk_r ?_
    refine q_then_r ?_
    refine q_then_r ?_
    refine q_blk_r ?_
    obtain rfl := Option.some.inj h
    obtain rfl := hres _ rfl
    exact .inr (⟨_, rfl, rfl, _, σ3, fr_join ⟨rfl, trivial⟩, rfl, H.sel' [] rfl rfl⟩)
   ·replace h := bif_f hb11 h
    refine c_skip ?_
    refine q_blk ?_
    refine q_then ?_
    refine rg ?_
    refine st (v := (I (w64 (s2 + 1)))) (rv_add (a := s2) (b := 1) rfl rfl) ?_
    refine st (v := (I (w64 (s2 + 1)))) (rv_move rfl) ?_
    refine w_end ?_
    refine q_then ?_
    obtain rfl := Option.some.inj h
    exact ⟨_, rfl, _, σ3, fr_join ⟨rfl, rfl, rfl, rfl, trivial⟩, rfl, H.sel' [0] rfl rfl⟩
  ·replace h := bif_f hb4 h
   refine c_exit ?_
   refine q_then_x ?_
   refine q_then_x ?_
   refine q_blk_hit ?_
   obtain rfl := Option.some.inj h
   obtain rfl := hres _ rfl
   exact .inl ⟨_, rfl, rfl, _, σ3, fr_join ⟨rfl, trivial⟩, rfl, H.sel' [] rfl rfl⟩
 ·clear hj
  have h := h'
  clear h' H
  rintro e a w (⟨t12, rfl, rfl, ρ, σ13, rfl, rfl, H⟩ | ⟨t14, rfl, rfl, ρ, σ15, rfl, rfl, H⟩)
  ·replace h := selim_l h
   refine q_then ?_
   refine c_seq ?_
   refine rg ?_
   refine st (v := (I 0)) (rv_move rfl) ?_
   refine st (v := (I 0)) (rv_assign rfl) ?_
   refine w_end ?_
   refine q_then ?_
   refine c_ret ?_
   obtain rfl := Option.some.inj h
   exact fin_ret (v := (I 0)) (results_ok Try.results58 (res_tmp (v := (I 0)) rfl res_nil) rfl) ⟨rfl, rfl⟩ (H.sel' [] rfl rfl)
  ·replace h := selim_r h
   refine q_then_r ?_
   obtain rfl := Option.some.inj h
   exact fin_ret (v := (I t14)) (results_ok Try.results58 (res_tmp (v := (I t14)) rfl res_nil) rfl) ⟨rfl, rfl⟩ (H.sel' [] rfl rfl)

theorem c_cmp_isNaN_int {x_0 : Int}  {r : Bool} (h : M.cmp_isNaN_int x_0 = some r) :
    Cal2 Try.prog 84 [(I x_0)] [] (fun n0 v L => v = (B r) ∧ L = []) := by
 refine cal2 (n := 6) Try.func84 rfl rfl rfl rfl ?_
 intro S0 σ0 n0 hn0 H
 unfold M.cmp_isNaN_int at h
 refine c_seq ?_
 refine rg ?_
 refine st (v := (B false)) (rv_assign rfl) ?_
 refine w_end ?_
 refine q_then ?_
 refine c_seq ?_
 refine rg ?_
 refine st (v := (I x_0)) (rv_move rfl) ?_
 refine st (v := (I x_0)) (rv_move rfl) ?_
 refine st (v := (B (x_0 != x_0))) (rv_neq (a := x_0) (b := x_0) rfl rfl) ?_
 refine st (v := (B (x_0 != x_0))) (rv_assign rfl) ?_
 refine w_end ?_
 refine q_then ?_
 refine c_ret ?_
 obtain rfl := Option.some.inj h
 exact fin_ret (v := (B (x_0 != x_0))) (results_ok Try.results84 (res_tmp (v := (B (x_0 != x_0))) rfl res_nil) rfl) ⟨rfl, rfl⟩ (H.sel' [] rfl rfl)

theorem c_cmp_Compare_int {x_0 : Int} {y_1 : Int}  {r : Int} (h : M.cmp_Compare_int x_0 y_1 = some r) :
    Cal2 Try.prog 59 [(I x_0), (I y_1)] [] (fun n0 v L => v = (I r) ∧ L = []) := by
 refine cal2 (n := 20) Try.func59 rfl rfl rfl rfl ?_
 intro S0 σ0 n0 hn0 H
 unfold M.cmp_Compare_int at h
 refine c_seq ?_
 refine rg ?_
 refine st (v := (I 0)) (rv_assign rfl) ?_
 refine w_end ?_
 refine q_then ?_
 refine c_seq ?_
 refine rg ?_
 refine st (v := (I x_0)) (rv_move rfl) ?_
 obtain ⟨r1, hx2, h'⟩ := bind_some h
 clear h
 have h := h'; clear h'
 have hc3 := c_cmp_isNaN_int hx2
 refine st_call (cx_call hc3 (ent_f hc3.fn rfl) hn0 (show Hp S0 σ0 _ ([] ++ []) from (H.sel' [] rfl rfl))) wn ?_
 rintro _ σ4 ⟨_, ⟨rfl, rfl⟩, H, -⟩
 replace H : Hp S0 σ0 σ4 [] := H
 refine st (v := (B r1)) (rv_assign rfl) ?_
 refine w_end ?_
 refine q_then ?_
 refine c_seq ?_
 refine rg ?_
 refine st (v := (I y_1)) (rv_move rfl) ?_
 obtain ⟨r5, hx6, h'⟩ := bind_some h
 clear h
 have h := h'; clear h'
 have hc7 := c_cmp_isNaN_int hx6
 refine st_call (cx_call hc7 (ent_f hc7.fn rfl) hn0 (show Hp S0 σ0 _ ([] ++ []) from (H.sel' [] rfl rfl))) wn ?_
 rintro _ σ8 ⟨_, ⟨rfl, rfl⟩, H, -⟩
 replace H : Hp S0 σ0 σ8 [] := H
 refine st (v := (B r5)) (rv_assign rfl) ?_
 refine w_end ?_
 refine q_then ?_
 refine c_seq ?_
 refine c_seq ?_
 refine rg ?_
 refine st (v := (B r1)) (rv_move rfl) ?_
 refine w_end ?_
 refine q_then ?_
 refine cd_cond r1 rfl (fun hb9 => ?_) (fun hb9 => ?_)
 ·replace h := bif_t hb9 h
  refine c_seq ?_
  refine c_seq ?_
  refine rg ?_
  refine st (v := (B r5)) (rv_move rfl) ?_
  refine w_end ?_
  refine q_then ?_
  refine cd_cond r5 rfl (fun hb10 => ?_) (fun hb10 => ?_)
  ·replace h := bif_t hb10 h
   refine c_seq ?_
   refine rg ?_
   refine st (v := (I 0)) (rv_assign rfl) ?_
   refine w_end ?_
   refine q_then ?_
   refine c_ret ?_
   refine q_then_r ?_
   refine q_then_r ?_
   obtain rfl := Option.some.inj h
   exact fin_ret (v := (I 0)) (results_ok Try.results59 (res_tmp (v := (I 0)) rfl res_nil) rfl) ⟨rfl, rfl⟩ (H.sel' [] rfl rfl)
  ·replace h := bif_f hb10 h
   refine c_skip ?_
   refine q_then ?_
   refine c_seq ?_
   refine rg ?_
   refine st (v := (I (-1))) (rv_assign rfl) ?_
   refine w_end ?_
   refine q_then ?_
   refine c_ret ?_
   refine q_then_r ?_
   obtain rfl := Option.some.inj h
   exact fin_ret (v := (I (-1))) (results_ok Try.results59 (res_tmp (v := (I (-1))) rfl res_nil) rfl) ⟨rfl, rfl⟩ (H.sel' [] rfl rfl)
 ·replace h := bif_f hb9 h
  refine c_skip ?_
  refine q_then ?_
  refine c_seq ?_
  refine c_seq ?_
  refine rg ?_
  refine st (v := (B r5)) (rv_move rfl) ?_
  refine w_end ?_
  refine q_then ?_
  refine cd_cond r5 rfl (fun hb11 => ?_) (fun hb11 => ?_)
  ·replace h := bif_t hb11 h
   refine c_seq ?_
   refine rg ?_
   refine st (v := (I 1)) (rv_assign rfl) ?_
   refine w_end ?_
   refine q_then ?_
   refine c_ret ?_
   refine q_then_r ?_
   obtain rfl := Option.some.inj h
   exact fin_ret (v := (I 1)) (results_ok Try.results59 (res_tmp (v := (I 1)) rfl res_nil) rfl) ⟨rfl, rfl⟩ (H.sel' [] rfl rfl)
  ·replace h := bif_f hb11 h
   refine c_skip ?_
   refine q_then ?_
   refine c_seq ?_
   refine c_seq ?_
   refine rg ?_
   refine st (v := (I x_0)) (rv_move rfl) ?_
   refine st (v := (I y_1)) (rv_move rfl) ?_
   refine st (v := (B (decide (x_0 < y_1)))) (rv_lss (a := x_0) (b := y_1) rfl rfl) ?_
   refine w_end ?_
   refine q_then ?_
   refine cd_cond (decide (x_0 < y_1)) rfl (fun hb12 => ?_) (fun hb12 => ?_)
   ·replace h := bif_t hb12 h
    refine c_seq ?_
    refine rg ?_
    refine st (v := (I (-1))) (rv_assign rfl) ?_
    refine w_end ?_
    refine q_then ?_
    refine c_ret ?_
    refine q_then_r ?_
    obtain rfl := Option.some.inj h
    exact fin_ret (v := (I (-1))) (results_ok Try.results59 (res_tmp (v := (I (-1))) rfl res_nil) rfl) ⟨rfl, rfl⟩ (H.sel' [] rfl rfl)
   ·replace h := bif_f hb12 h
    refine c_skip ?_
    refine q_then ?_
    refine c_seq ?_
    refine c_seq ?_
    refine rg ?_
    refine st (v := (I x_0)) (rv_move rfl) ?_
    refine st (v := (I y_1)) (rv_move rfl) ?_
    refine st (v := (B (decide (y_1 < x_0)))) (rv_gtr (a := x_0) (b := y_1) rfl rfl) ?_
    refine w_end ?_
    refine q_then ?_
    refine cd_cond (decide (y_1 < x_0)) rfl (fun hb13 => ?_) (fun hb13 => ?_)
    ·replace h := bif_t hb13 h
     refine c_seq ?_
     refine rg ?_
     refine st (v := (I 1)) (rv_assign rfl) ?_
     refine w_end ?_
     refine q_then ?_
     refine c_ret ?_
     refine q_then_r ?_
     obtain rfl := Option.some.inj h
     exact fin_ret (v := (I 1)) (results_ok Try.results59 (res_tmp (v := (I 1)) rfl res_nil) rfl) ⟨rfl, rfl⟩ (H.sel' [] rfl rfl)
    ·replace h := bif_f hb13 h
     refine c_skip ?_
     refine q_then ?_
     refine c_seq ?_
     refine rg ?_
     refine st (v := (I 0)) (rv_assign rfl) ?_
     refine w_end ?_
     refine q_then ?_
     refine c_ret ?_
     obtain rfl := Option.some.inj h
     exact fin_ret (v := (I 0)) (results_ok Try.results59 (res_tmp (v := (I 0)) rfl res_nil) rfl) ⟨rfl, rfl⟩ (H.sel' [] rfl rfl)

theorem c_impl_compareHits {a_0 : Int × Int} {b_1 : Int × Int}  {r : Int} (h : M.impl_compareHits a_0 b_1 = some r) :
    Cal2 Try.prog 46 [(.agg #[(I a_0.1), (I a_0.2)]), (.agg #[(I b_1.1), (I b_1.2)])] [] (fun n0 v L => v = (I r) ∧ L = []) := by
 refine cal2 (n := 17) Try.func46 rfl rfl rfl rfl ?_
 intro S0 σ0 n0 hn0 H
 unfold M.impl_compareHits at h
 refine c_seq ?_
 refine rg ?_
 refine st_ex (ex_box (cs := [(I a_0.1), (I a_0.2)]) H hn0 rfl rfl) wn ?_
 rintro _ σ2 ⟨b1, rfl, H, -⟩
 refine st_ex (ex_box (cs := [(I b_1.1), (I b_1.2)]) H hn0 rfl rfl) wn ?_
 rintro _ σ4 ⟨b3, rfl, H, -⟩
 refine st (v := (I 0)) (rv_assign rfl) ?_
 refine w_end ?_
 refine q_then ?_
 refine c_seq ?_
 have hc5 := H.cell (u := (I a_0.2)) (o' := 1) 1 1 rfl rfl rfl
 have hc6 := H.cell (u := (I b_1.2)) (o' := 1) 0 1 rfl rfl rfl
 obtain ⟨r7, hx8, h'⟩ := bind_some h
 clear h
 have h := h'; clear h'
 have hc9 := c_cmp_Compare_int hx8
 have hc10 := H.cell (u := (I a_0.1)) (o' := 0) 1 0 rfl rfl rfl
 have hc11 := H.cell (u := (I b_1.1)) (o' := 0) 0 0 rfl rfl rfl
 have Hs := H
 refine rg2 (σ := σ4) (Nm := Unit) 9 [4] [[false], [true]] [[(0, 0)], [(0, 0)], [(0, 0)], [(0, 0)], [(0, 1)], [(0, 0), (1, 1)], [(0, 0), (1, 1)], [(0, 0), (1, 1)], [(0, 0), (1, 1)]] 1 [fun _ => fun σm => Hp S0 σ0 σm [Ch.bx n0 b3 0 [(I b_1.1), (I b_1.2)] [] [], Ch.bx n0 b1 0 [(I a_0.1), (I a_0.2)] [] []] ∧ Md (cov []) σ4 σm, fun _ => fun σm => Hp S0 σ0 σm [Ch.bx n0 b3 0 [(I b_1.1), (I b_1.2)] [] [], Ch.bx n0 b1 0 [(I a_0.1), (I a_0.2)] [] []] ∧ Md (cov []) σ4 σm] [fun _ => (pt b1 1), fun _ => (I a_0.2), fun _ => (pt b3 1), fun _ => (I b_1.2), fun _ => (I r7), fun _ => (pt b1 0), fun _ => (I a_0.1), fun _ => (pt b3 0), fun _ => (I b_1.1)] () (by kernel_rfl) (by kernel_rfl) ?_ ?_ ?_
 ·intro σm m0
  exact ⟨H.grow (m0.mono fun _ h => h.elim), m0⟩
 ·refine ac rfl (by
    intro k _nm ρ σm hJ hoff hdep
    have e2 := look_off (N := 17) (hoff 2 rfl) rfl
    exact dp_v (v := (pt b1 1)) wn (rv_fieldAddr (off := 1) (ft := 3) Try.underlying31 rfl ti3 rfl e2) rfl hJ) ?_
  refine all_cons (by
    refine ⟨?_, ?_⟩
    ·intro _nm ρ σm hJ hoff hdep
     have e5 := hdep 0 rfl rfl 5 rfl
     obtain ⟨H, m⟩ := id hJ
     have hc5 := H.cell (u := (I a_0.2)) (o' := 1) 1 1 rfl rfl rfl
     exact dp_v (v := (I a_0.2)) wn (rv_load1 Try.underlying3 rfl e5 hc5) rfl hJ
    trivial) ?_
  refine ac rfl (by
    intro k _nm ρ σm hJ hoff hdep
    have e3 := look_off (N := 17) (hoff 3 rfl) rfl
    exact dp_v (v := (pt b3 1)) wn (rv_fieldAddr (off := 1) (ft := 3) Try.underlying31 rfl ti3 rfl e3) rfl hJ) ?_
  refine all_cons (by
    refine ⟨?_, ?_⟩
    ·intro _nm ρ σm hJ hoff hdep
     have e7 := hdep 2 rfl rfl 7 rfl
     obtain ⟨H, m⟩ := id hJ
     have hc6 := H.cell (u := (I b_1.2)) (o' := 1) 0 1 rfl rfl rfl
     exact dp_v (v := (I b_1.2)) wn (rv_load1 Try.underlying3 rfl e7 hc6) rfl hJ
    trivial) ?_
  refine all_cons (by
    refine ⟨?_, ?_⟩
    ·intro _nm ρ σm hJ hoff hdep
     have e6 : look 17 ρ 6 = (I a_0.2) := hdep 1 rfl rfl 6 rfl
     have e8 : look 17 ρ 8 = (I b_1.2) := hdep 3 rfl rfl 8 rfl
     obtain ⟨H, m⟩ := id hJ
     refine dp_cx wn (cx_call hc9 (ent_f hc9.fn (by show [look 17 ρ 6, look 17 ρ 8] = _; rw [e6, e8])) hn0 (show Hp S0 σ0 _ ([] ++ [Ch.bx n0 b3 0 [(I b_1.1), (I b_1.2)] [] [], Ch.bx n0 b1 0 [(I a_0.1), (I a_0.2)] [] []]) from (H.sel' [0, 1] rfl rfl))) ?_
     rintro _ σq ⟨_, ⟨rfl, rfl⟩, H2, m2⟩
     exact ⟨_, (), rfl, rfl, ⟨H2.sel' [0, 1] rfl rfl, m.comp0 m2⟩, stab [0, 1, 2, 3, 5, 6, 7, 8] (by kernel_rfl) ⟨rfl, rfl, rfl, rfl, rfl, rfl, rfl, rfl, trivial⟩⟩
    trivial) ?_
  refine ac rfl (by
    intro k _nm ρ σm hJ hoff hdep
    have e2 := look_off (N := 17) (hoff 2 rfl) rfl
    exact dp_v (v := (pt b1 0)) wn (rv_fieldAddr (off := 0) (ft := 3) Try.underlying31 rfl ti3 rfl e2) rfl hJ) ?_
  refine all_cons (by
    refine ⟨?_, ?_⟩
    ·intro _nm ρ σm hJ hoff hdep
     have e10 := hdep 5 rfl rfl 10 rfl
     obtain ⟨H, m⟩ := id hJ
     have hc10 := H.cell (u := (I a_0.1)) (o' := 0) 1 0 rfl rfl rfl
     exact dp_v (v := (I a_0.1)) wn (rv_load1 Try.underlying3 rfl e10 hc10) rfl hJ
    refine ⟨?_, ?_⟩
    ·intro _nm ρ σm hJ hoff hdep
     have e10 := hdep 5 rfl rfl 10 rfl
     obtain ⟨H, m⟩ := id hJ
     have hc10 := H.cell (u := (I a_0.1)) (o' := 0) 1 0 rfl rfl rfl
     exact dp_v (v := (I a_0.1)) wn (rv_load1 Try.underlying3 rfl e10 hc10) rfl hJ
    trivial) ?_
  refine ac rfl (by
    intro k _nm ρ σm hJ hoff hdep
    have e3 := look_off (N := 17) (hoff 3 rfl) rfl
    exact dp_v (v := (pt b3 0)) wn (rv_fieldAddr (off := 0) (ft := 3) Try.underlying31 rfl ti3 rfl e3) rfl hJ) ?_
  refine all_cons (by
    refine ⟨?_, ?_⟩
    ·intro _nm ρ σm hJ hoff hdep
     have e12 := hdep 7 rfl rfl 12 rfl
     obtain ⟨H, m⟩ := id hJ
     have hc11 := H.cell (u := (I b_1.1)) (o' := 0) 0 0 rfl rfl rfl
     exact dp_v (v := (I b_1.1)) wn (rv_load1 Try.underlying3 rfl e12 hc11) rfl hJ
    refine ⟨?_, ?_⟩
    ·intro _nm ρ σm hJ hoff hdep
     have e12 := hdep 7 rfl rfl 12 rfl
     obtain ⟨H, m⟩ := id hJ
     have hc11 := H.cell (u := (I b_1.1)) (o' := 0) 0 0 rfl rfl rfl
     exact dp_v (v := (I b_1.1)) wn (rv_load1 Try.underlying3 rfl e12 hc11) rfl hJ
    trivial) ?_
  exact all_nil
 ·intro _nm ρ σ12 hJ hoff hrel
  have e9 := hrel 4 rfl 9 rfl
  have e11 := hrel 6 rfl 11 rfl
  have e13 := hrel 8 rfl 13 rfl
  obtain ⟨H, -⟩ := (show Hp S0 σ0 σ12 [Ch.bx n0 b3 0 [(I b_1.1), (I b_1.2)] [] [], Ch.bx n0 b1 0 [(I a_0.1), (I a_0.2)] [] []] ∧ Md (cov []) σ4 σ12 from hJ)
  clear hJ Hs
  rw [fr_lookL (L := [(9, (I r7)), (11, (I a_0.1)), (13, (I b_1.1))]) ⟨e9, e11, e13, trivial⟩]
  clear hoff hrel e9 e11 e13
  obtain ⟨r13, hx14, h'⟩ := bind_some h
  clear h
  have h := h'; clear h'
  have hc15 := c_cmp_Compare_int hx14
  refine st_call (cx_call hc15 (ent_f hc15.fn rfl) hn0 (show Hp S0 σ0 _ ([] ++ [Ch.bx n0 b3 0 [(I b_1.1), (I b_1.2)] [] [], Ch.bx n0 b1 0 [(I a_0.1), (I a_0.2)] [] []]) from (H.sel' [0, 1] rfl rfl))) wn ?_
  rintro _ σ16 ⟨_, ⟨rfl, rfl⟩, H, -⟩
  replace H : Hp S0 σ0 σ16 [Ch.bx n0 b3 0 [(I b_1.1), (I b_1.2)] [] [], Ch.bx n0 b1 0 [(I a_0.1), (I a_0.2)] [] []] := H
  refine st_ex (ex_buildSlice (el := n0) (xs := ([r7, r13] : List Int)) (ps := [(0, (I r7)), (1, (I r13))]) (cs := [(I r7), (I r13)]) H hn0 Try.underlying24 ti3 rfl rfl (by kernel_rfl) (.cons (c := [(I r7)]) rfl (.cons (c := [(I r13)]) rfl (.nil))) rfl) wn ?_
  rintro _ σ18 ⟨b17, rfl, H, -⟩
  obtain ⟨σ19, hw20, H, -⟩ := H.pub 0 rfl (Nat.le_refl _)
  rw [← hw20]; clear hw20
  replace H := H.roLow 0 0 rfl (Nat.zero_le _)
  obtain ⟨r21, hx22, h'⟩ := bind_some h
  clear h
  have h := h'; clear h'
  have hc23 := c_cmp_Or_int (avals_0 := (some ⟨b17, 0, none⟩)) (cvals_0 := 2) hx22
  refine st_call (cx_call hc23 (ent_f hc23.fn rfl) hn0 (show Hp S0 σ0 _ ([Ch.ro 0 (Sl (some ⟨b17, 0, none⟩) ([r7, r13] : List Int) 2) ([r7, r13] : List Int)] ++ [Ch.ro 0 (Sl (some ⟨b17, 0, none⟩) ([r7, r13] : List Int) 2) ([r7, r13] : List Int), Ch.ro n0 (Sl (some ⟨b17, 0, none⟩) ([r7, r13] : List Int) 2) ([r7, r13] : List Int), Ch.bx n0 b3 0 [(I b_1.1), (I b_1.2)] [] [], Ch.bx n0 b1 0 [(I a_0.1), (I a_0.2)] [] []]) from (H.sel' [0, 0, 1, 2, 3] rfl rfl))) wn ?_
  rintro _ σ24 ⟨_, ⟨rfl, rfl⟩, H, -⟩
  replace H : Hp S0 σ0 σ24 [Ch.ro 0 (Sl (some ⟨b17, 0, none⟩) ([r7, r13] : List Int) 2) ([r7, r13] : List Int), Ch.ro n0 (Sl (some ⟨b17, 0, none⟩) ([r7, r13] : List Int) 2) ([r7, r13] : List Int), Ch.bx n0 b3 0 [(I b_1.1), (I b_1.2)] [] [], Ch.bx n0 b1 0 [(I a_0.1), (I a_0.2)] [] []] := H
  refine st (v := (I r21)) (rv_assign rfl) ?_
  refine w_end ?_
  refine q_then ?_
  refine c_ret ?_
  obtain rfl := Option.some.inj h
  exact fin_ret (v := (I r21)) (results_ok Try.results46 (res_tmp (v := (I r21)) rfl res_nil) rfl) ⟨rfl, rfl⟩ (H.sel' [] rfl rfl)

theorem c_impl_placeIn_1__p3 {h_0 : Int × Int} {p_1 : Int} {lop_1 bp_1 op_1 : Nat} {prep_1 sufp_1 : List Value} {r : Bool} (h : M.impl_placeIn_1__p3 h_0 p_1 = some r) :
    Cal2 Try.prog 77 [(.agg #[(I h_0.1), (I h_0.2)]), (pt bp_1 op_1)] [Ch.bx lop_1 bp_1 op_1 [(I p_1)] prep_1 sufp_1] (fun n0 v L => v = (B r) ∧ L = [Ch.bx lop_1 bp_1 op_1 [(I p_1)] prep_1 sufp_1]) := by
 refine cal2 (n := 8) Try.func77 rfl rfl rfl rfl ?_
 intro S0 σ0 n0 hn0 H
 unfold M.impl_placeIn_1__p3 at h
 refine c_seq ?_
 refine rg ?_
 refine st_ex (ex_box (cs := [(I h_0.1), (I h_0.2)]) H hn0 rfl rfl) wn ?_
 rintro _ σ2 ⟨b1, rfl, H, -⟩
 refine st (v := (B false)) (rv_assign rfl) ?_
 refine w_end ?_
 refine q_then ?_
 refine c_seq ?_
 refine rg ?_
 refine st (v := (pt b1 0)) (rv_fieldAddr (off := 0) (ft := 3) Try.underlying31 rfl ti3 rfl rfl) ?_
 have hc3 := H.cell (u := (I h_0.1)) (o' := 0) 0 0 rfl rfl rfl
 refine st (v := (I h_0.1)) (rv_load1 Try.underlying3 rfl rfl hc3) ?_
 have hc4 := H.cell (u := (I p_1)) (o' := op_1) 1 0 rfl rfl rfl
 refine st (v := (I p_1)) (rv_load1 Try.underlying3 rfl rfl hc4) ?_
 refine st (v := (B (h_0.1 == p_1))) (rv_eql (a := h_0.1) (b := p_1) rfl rfl) ?_
 refine st (v := (B (h_0.1 == p_1))) (rv_assign rfl) ?_
 refine w_end ?_
 refine q_then ?_
 refine c_ret ?_
 obtain rfl := Option.some.inj h
 exact fin_ret (v := (B (h_0.1 == p_1))) (results_ok Try.results77 (res_tmp (v := (B (h_0.1 == p_1))) rfl res_nil) rfl) ⟨rfl, rfl⟩ (H.sel' [1] rfl rfl)

theorem c_slices_IndexFunc_impl_Hit_impl_Hit__impl_placeIn_1 {s_0 : List (Int × Int)} {f_1_0 : Int} {as_0 : Option Addr} {cs_0 : Nat} {lof_1_0 bf_1_0 of_1_0 : Nat} {pref_1_0 suff_1_0 : List Value} {r : Int} (h : M.slices_IndexFunc_impl_Hit_impl_Hit__impl_placeIn_1 s_0 f_1_0 = some r) :
    Cal2 Try.prog 76 [(Sl as_0 s_0 cs_0), (.func (.func 77) #[] #[(pt bf_1_0 of_1_0)])] [Ch.ro 0 (Sl as_0 s_0 cs_0) s_0, Ch.bx lof_1_0 bf_1_0 of_1_0 [(I f_1_0)] pref_1_0 suff_1_0] (fun n0 v L => v = (I r) ∧ L = [Ch.bx lof_1_0 bf_1_0 of_1_0 [(I f_1_0)] pref_1_0 suff_1_0]) := by
 refine cal2 (n := 19) Try.func76 rfl rfl rfl rfl ?_
 intro S0 σ0 n0 hn0 H
 unfold M.slices_IndexFunc_impl_Hit_impl_Hit__impl_placeIn_1 at h
 refine c_seq ?_
 refine rg ?_
 refine st (v := (I 0)) (rv_assign rfl) ?_
 refine w_end ?_
 refine q_then ?_
 refine c_seq ?_
 refine c_seq ?_
 refine rg ?_
 refine st (v := (Sl as_0 s_0 cs_0)) (rv_move rfl) ?_
 refine st (v := (I (s_0.length : Int))) (rv_len Try.underlying27 rfl) ?_
 refine st (v := (I 0)) (rv_move rfl) ?_
 refine w_end ?_
 refine q_then ?_
 obtain ⟨o1, hj, h'⟩ := bind_some h
 clear h
 refine c_cut (fun e a w => (∃ t, o1 = (.inl t) ∧ e = .normal ∧ ∃ (ρ : Nat → Value) (σ : St), a = fr 19 (updL ρ [(1, (.func (.func 77) #[] #[(pt bf_1_0 of_1_0)]))]) ∧ w = σ.w ∧ Hp S0 σ0 σ [Ch.bx lof_1_0 bf_1_0 of_1_0 [(I f_1_0)] pref_1_0 suff_1_0]) ∨ (∃ t, o1 = (.inr t) ∧ e = .ret ∧ ∃ (ρ : Nat → Value) (σ : St), a = fr 19 (updL ρ [(1, (.func (.func 77) #[] #[(pt bf_1_0 of_1_0)])), (4, (I t))]) ∧ w = σ.w ∧ Hp S0 σ0 σ [Ch.bx lof_1_0 bf_1_0 of_1_0 [(I f_1_0)] pref_1_0 suff_1_0])) ?_ ?_
 ·clear h'
  rename _ = some o1 => h
  refine c_blk ?_
  refine wp_loopM _ h (fun s2 a w => ∃ (ρ : Nat → Value) (σ : St), a = fr 19 (updL ρ [(0, (Sl as_0 s_0 cs_0)), (1, (.func (.func 77) #[] #[(pt bf_1_0 of_1_0)])), (7, (I (s_0.length : Int))), (8, (I s2))]) ∧ w = σ.w ∧ Hp S0 σ0 σ [Ch.ro 0 (Sl as_0 s_0 cs_0) s_0, Ch.bx lof_1_0 bf_1_0 of_1_0 [(I f_1_0)] pref_1_0 suff_1_0]) ⟨_, σ0, fr_join ⟨rfl, rfl, rfl, rfl, trivial⟩, rfl, H.sel' [0, 1] rfl rfl⟩ ?_
  clear h H
  rintro s2 a w o ⟨ρ, σ3, rfl, rfl, H⟩ h hres
  refine c_seq ?_
  refine rg ?_
  refine st (v := (B (decide (s2 < (s_0.length : Int))))) (rv_lss (a := s2) (b := (s_0.length : Int)) rfl rfl) ?_
  refine w_end ?_
  refine q_then ?_
  refine c_seq ?_
  refine cd_cond (decide (s2 < (s_0.length : Int))) rfl (fun hb4 => ?_) (fun hb4 => ?_)
  ·replace h := bif_t hb4 h
   refine c_skip ?_
   refine q_then ?_
   refine c_seq ?_
   refine c_blk ?_
   refine c_seq ?_
   refine rg ?_
   refine st (v := (I s2)) (rv_move rfl) ?_
   refine st (v := (I s2)) (rv_assign rfl) ?_
   refine w_end ?_
   refine q_then ?_
   refine c_seq ?_
   refine rg ?_
   refine st (v := (.func (.func 77) #[] #[(pt bf_1_0 of_1_0)])) (rv_move rfl) ?_
   refine st (v := (Sl as_0 s_0 cs_0)) (rv_move rfl) ?_
   refine st (v := (I s2)) (rv_move rfl) ?_
   obtain ⟨x5, hx6, h'⟩ := bind_some h
   clear h
   have h := h'; clear h'
   obtain ⟨b8, o9, hi7, -⟩ := (H.ro 0 rfl).ix hx6
   refine st (v := (pt b8 o9)) (rv_ix Try.underlying27 ti31 rfl rfl hi7) ?_
   obtain ⟨_, ⟨_, _, rfl, rfl, rfl⟩, hl10, hc11⟩ := ((H.ro 0 rfl).at hx6 hi7).cells
   refine st (v := (.agg #[(I x5.1), (I x5.2)])) (rv_load Try.underlying31 rfl ti31 rfl hl10 hc11) ?_
   obtain ⟨r12, hx13, h'⟩ := bind_some h
   clear h
   have h := h'; clear h'
   have hc14 := c_impl_placeIn_1__p3 (lop_1 := lof_1_0) (bp_1 := bf_1_0) (op_1 := of_1_0) (prep_1 := pref_1_0) (sufp_1 := suff_1_0) hx13
   refine st_call (cx_call hc14 (ent_v (cap := [(pt bf_1_0 of_1_0)]) hc14.fn rfl rfl) hn0 (show Hp S0 σ0 _ ([Ch.bx lof_1_0 bf_1_0 of_1_0 [(I f_1_0)] pref_1_0 suff_1_0] ++ [Ch.ro 0 (Sl as_0 s_0 cs_0) s_0]) from (H.sel' [1, 0] rfl rfl))) wn ?_
   rintro _ σ15 ⟨_, ⟨rfl, rfl⟩, H, -⟩
   replace H : Hp S0 σ0 σ15 [Ch.bx lof_1_0 bf_1_0 of_1_0 [(I f_1_0)] pref_1_0 suff_1_0, Ch.ro 0 (Sl as_0 s_0 cs_0) s_0] := H
   refine w_end ?_
   refine q_then ?_
   refine cd_cond r12 rfl (fun hb16 => ?_) (fun hb16 => ?_)
   ·replace h := bif_t hb16 h
    refine c_seq ?_
    refine rg ?_
    refine st (v := (I s2)) (rv_move rfl) ?_
    refine st (v := (I s2)) (rv_assign rfl) ?_
    refine w_end ?_
    refine q_then ?_
    refine c_ret ?_
    refine q_blk_r ?_
    refine q_then_r ?_
    refine q_then_r ?_
    refine q_blk_r ?_
    obtain rfl := Option.some.inj h
    obtain rfl := hres _ rfl
    exact .inr (⟨_, rfl, rfl, _, σ15, fr_join ⟨rfl, rfl, trivial⟩, rfl, H.sel' [0] rfl rfl⟩)
   ·replace h := bif_f hb16 h
    refine c_skip ?_
    refine q_blk ?_
    refine q_then ?_
    refine rg ?_
    refine st (v := (I (w64 (s2 + 1)))) (rv_add (a := s2) (b := 1) rfl rfl) ?_
    refine st (v := (I (w64 (s2 + 1)))) (rv_move rfl) ?_
    refine w_end ?_
    refine q_then ?_
    obtain rfl := Option.some.inj h
    exact ⟨_, rfl, _, σ15, fr_join ⟨rfl, rfl, rfl, rfl, trivial⟩, rfl, H.sel' [1, 0] rfl rfl⟩
  ·replace h := bif_f hb4 h
   refine c_exit ?_
   refine q_then_x ?_
   refine q_then_x ?_
   refine q_blk_hit ?_
   obtain rfl := Option.some.inj h
   obtain rfl := hres _ rfl
   exact .inl ⟨_, rfl, rfl, _, σ3, fr_join ⟨rfl, trivial⟩, rfl, H.sel' [1] rfl rfl⟩
 ·clear hj
  have h := h'
  clear h' H
  rintro e a w (⟨t17, rfl, rfl, ρ, σ18, rfl, rfl, H⟩ | ⟨t19, rfl, rfl, ρ, σ20, rfl, rfl, H⟩)
  ·replace h := selim_l h
   refine q_then ?_
   refine c_seq ?_
   refine rg ?_
   refine st (v := (I (-1))) (rv_assign rfl) ?_
   refine w_end ?_
   refine q_then ?_
   refine c_ret ?_
   obtain rfl := Option.some.inj h
   exact fin_ret (v := (I (-1))) (results_ok Try.results76 (res_tmp (v := (I (-1))) rfl res_nil) rfl) ⟨rfl, rfl⟩ (H.sel' [0] rfl rfl)
  ·replace h := selim_r h
   refine q_then_r ?_
   obtain rfl := Option.some.inj h
   exact fin_ret (v := (I t19)) (results_ok Try.results76 (res_tmp (v := (I t19)) rfl res_nil) rfl) ⟨rfl, rfl⟩ (H.sel' [0] rfl rfl)

theorem c_impl_placeIn {list_0 : List (Int × Int)} {key_1 : Int} {alist_0 : Option Addr} {clist_0 : Nat} {r : Int} (h : M.impl_placeIn list_0 key_1 = some r) :
    Cal2 Try.prog 47 [(Sl alist_0 list_0 clist_0), (I key_1)] [Ch.ro 0 (Sl alist_0 list_0 clist_0) list_0] (fun n0 v L => v = (I r) ∧ L = []) := by
 refine cal2 (n := 8) Try.func47 rfl rfl rfl rfl ?_
 intro S0 σ0 n0 hn0 H
 unfold M.impl_placeIn at h
 refine c_seq ?_
 refine rg ?_
 refine st_ex (ex_box (cs := [(I key_1)]) H hn0 rfl rfl) wn ?_
 rintro _ σ2 ⟨b1, rfl, H, -⟩
 refine st (v := (I 0)) (rv_assign rfl) ?_
 refine w_end ?_
 refine q_then ?_
 refine c_seq ?_
 refine rg ?_
 refine st (v := (Sl alist_0 list_0 clist_0)) (rv_move rfl) ?_
 refine st (v := (.func (.func 77) #[] #[(pt b1 0)])) (rv_makeFunc (vs := [(pt b1 0)]) rfl) ?_
 obtain ⟨r3, hx4, h'⟩ := bind_some h
 clear h
 have h := h'; clear h'
 have hc5 := c_slices_IndexFunc_impl_Hit_impl_Hit__impl_placeIn_1 (as_0 := alist_0) (cs_0 := clist_0) (lof_1_0 := n0) (bf_1_0 := b1) (of_1_0 := 0) (pref_1_0 := []) (suff_1_0 := []) hx4
 refine st_call (cx_call hc5 (ent_f hc5.fn rfl) hn0 (show Hp S0 σ0 _ ([Ch.ro 0 (Sl alist_0 list_0 clist_0) list_0, Ch.bx n0 b1 0 [(I key_1)] [] []] ++ [Ch.ro 0 (Sl alist_0 list_0 clist_0) list_0]) from (H.sel' [1, 0, 1] rfl rfl))) wn ?_
 rintro _ σ6 ⟨_, ⟨rfl, rfl⟩, H, -⟩
 replace H : Hp S0 σ0 σ6 [Ch.bx n0 b1 0 [(I key_1)] [] [], Ch.ro 0 (Sl alist_0 list_0 clist_0) list_0] := H
 refine st (v := (I r3)) (rv_assign rfl) ?_
 refine w_end ?_
 refine q_then ?_
 refine c_ret ?_
 obtain rfl := Option.some.inj h
 exact fin_ret (v := (I r3)) (results_ok Try.results47 (res_tmp (v := (I r3)) rfl res_nil) rfl) ⟨rfl, rfl⟩ (H.sel' [] rfl rfl)

theorem c_impl_ValidHits {list_0 : List (Int × Int)} {alist_0 : Option Addr} {clist_0 : Nat} {r : Bool} (h : M.impl_ValidHits list_0 = some r) :
    Cal2 Try.prog 17 [(Sl alist_0 list_0 clist_0)] [Ch.ro 0 (Sl alist_0 list_0 clist_0) list_0] (fun n0 v L => v = (B r) ∧ L = []) := by
 refine cal2 (n := 40) Try.func17 rfl rfl rfl rfl ?_
 intro S0 σ0 n0 hn0 H
 unfold M.impl_ValidHits at h
 refine c_seq ?_
 refine rg ?_
 refine st (v := (B false)) (rv_assign rfl) ?_
 refine w_end ?_
 refine q_then ?_
 refine c_seq ?_
 refine c_seq ?_
 refine rg ?_
 refine st (v := (Sl alist_0 list_0 clist_0)) (rv_move rfl) ?_
 refine st (v := (I (list_0.length : Int))) (rv_len Try.underlying27 rfl) ?_
 refine st (v := (B (decide (16 < (list_0.length : Int))))) (rv_gtr (a := (list_0.length : Int)) (b := 16) rfl rfl) ?_
 refine w_end ?_
 refine q_then ?_
 refine cd_cond (decide (16 < (list_0.length : Int))) rfl (fun hb1 => ?_) (fun hb1 => ?_)
 ·replace h := bif_t hb1 h
  refine c_seq ?_
  refine rg ?_
  refine st (v := (B false)) (rv_assign rfl) ?_
  refine w_end ?_
  refine q_then ?_
  refine c_ret ?_
  refine q_then_r ?_
  obtain rfl := Option.some.inj h
  exact fin_ret (v := (B false)) (results_ok Try.results17 (res_tmp (v := (B false)) rfl res_nil) rfl) ⟨rfl, rfl⟩ (H.sel' [] rfl rfl)
 ·replace h := bif_f hb1 h
  refine c_skip ?_
  refine q_then ?_
  refine c_seq ?_
  refine c_seq ?_
  refine rg ?_
  refine st (v := (Sl alist_0 list_0 clist_0)) (rv_move rfl) ?_
  refine st (v := (I (list_0.length : Int))) (rv_len Try.underlying27 rfl) ?_
  refine st (v := (I 0)) (rv_move rfl) ?_
  refine w_end ?_
  refine q_then ?_
  obtain ⟨o2, hj, h'⟩ := bind_some h
  clear h
  refine c_cut (fun e a w => (∃ t, o2 = (.inl t) ∧ e = .normal ∧ ∃ (ρ : Nat → Value) (σ : St), a = fr 40 (updL ρ []) ∧ w = σ.w ∧ Hp S0 σ0 σ []) ∨ (∃ t, o2 = (.inr t) ∧ e = .ret ∧ ∃ (ρ : Nat → Value) (σ : St), a = fr 40 (updL ρ [(2, (B t))]) ∧ w = σ.w ∧ Hp S0 σ0 σ [])) ?_ ?_
  ·clear h'
   rename _ = some o2 => h
   refine c_blk ?_
   refine wp_loopM _ h (fun s3 a w => ∃ (ρ : Nat → Value) (σ : St), a = fr 40 (updL ρ [(0, (Sl alist_0 list_0 clist_0)), (8, (Sl alist_0 list_0 clist_0)), (9, (I (list_0.length : Int))), (10, (I s3))]) ∧ w = σ.w ∧ Hp S0 σ0 σ [Ch.ro 0 (Sl alist_0 list_0 clist_0) list_0]) ⟨_, σ0, fr_join ⟨rfl, rfl, rfl, rfl, trivial⟩, rfl, H.sel' [0] rfl rfl⟩ ?_
   clear h H
   rintro s3 a w o ⟨ρ, σ4, rfl, rfl, H⟩ h hres
   refine c_seq ?_
   refine rg ?_
   refine st (v := (B (decide (s3 < (list_0.length : Int))))) (rv_lss (a := s3) (b := (list_0.length : Int)) rfl rfl) ?_
   refine w_end ?_
   refine q_then ?_
   refine c_seq ?_
   refine cd_cond (decide (s3 < (list_0.length : Int))) rfl (fun hb5 => ?_) (fun hb5 => ?_)
   ·replace h := bif_t hb5 h
    refine c_skip ?_
    refine q_then ?_
    refine c_seq ?_
    refine c_blk ?_
    refine c_seq ?_
    refine rg ?_
    refine st (v := (I s3)) (rv_move rfl) ?_
    obtain ⟨x6, hx7, h'⟩ := bind_some h
    clear h
    have h := h'; clear h'
    obtain ⟨b9, o10, hi8, -⟩ := (H.ro 0 rfl).ix hx7
    refine st (v := (pt b9 o10)) (rv_ix Try.underlying27 ti31 rfl rfl hi8) ?_
    obtain ⟨_, ⟨_, _, rfl, rfl, rfl⟩, hl11, hc12⟩ := ((H.ro 0 rfl).at hx7 hi8).cells
    refine st (v := (.agg #[(I x6.1), (I x6.2)])) (rv_load Try.underlying31 rfl ti31 rfl hl11 hc12) ?_
    refine st_ex (ex_alloc (cs := [(I 0), (I 0)]) H hn0 ti31 rfl) wn ?_
    rintro _ σ14 ⟨b13, rfl, H, -⟩
    refine st (v := (I s3)) (rv_assign rfl) ?_
    refine st_exS (ex_store_box (k := 0) (cs := [(I 0), (I 0)]) (vs := [(I x6.1), (I x6.2)]) (cs' := [(I x6.1), (I x6.2)]) H (i := 0) rfl ti31 rfl rfl rfl rfl rfl (Nat.le_of_ble_eq_true rfl) (by simp [plain]) rfl) wn ?_
    rintro σ15 ⟨H, -⟩
    refine w_end ?_
    refine q_then ?_
    refine c_seq ?_
    refine c_seq ?_
    obtain ⟨o16, hj, h'⟩ := bind_some h
    clear h
    refine c_cut (fun e a w => e = .normal ∧ ∃ (ρ : Nat → Value) (σ : St), a = fr 40 (updL ρ [(0, (Sl alist_0 list_0 clist_0)), (3, (I s3)), (4, (pt b13 0)), (8, (Sl alist_0 list_0 clist_0)), (9, (I (list_0.length : Int))), (10, (I s3)), (31, (B o16))]) ∧ w = σ.w ∧ Hp S0 σ0 σ [Ch.ro 0 (Sl alist_0 list_0 clist_0) list_0, Ch.bx n0 b13 0 [(I x6.1), (I x6.2)] [] []]) ?_ ?_
    ·clear h'
     rename _ = some o16 => h
     have hc17 := H.cells 0 rfl
     obtain ⟨r18, hx19, h'⟩ := bind_some h
     clear h
     have h := h'; clear h'
     have hc20 := c_impl_validHit hx19
     rcases Bool.eq_false_or_eq_true (!r18) with hb21 | hb21
     ·replace h := bif_t hb21 h
      have Hs := H
      refine rg2 (σ := σ15) (Nm := Unit) 13 [1] [[false], [true]] [[(0, 0)], [(0, 1)], [(1, 1)], [(1, 1)], [(1, 1)], [(1, 1)], [(1, 1)], [(1, 1)], [(1, 1)], [(1, 1)], [(1, 1)], [(1, 1)], [(1, 1)]] 1 [fun _ => fun σm => Hp S0 σ0 σm [Ch.bx n0 b13 0 [(I x6.1), (I x6.2)] [] [], Ch.ro 0 (Sl alist_0 list_0 clist_0) list_0] ∧ Md (cov []) σ15 σm, fun _ => fun σm => Hp S0 σ0 σm [Ch.bx n0 b13 0 [(I x6.1), (I x6.2)] [] [], Ch.ro 0 (Sl alist_0 list_0 clist_0) list_0] ∧ Md (cov []) σ15 σm] [fun _ => (.agg #[(I x6.1), (I x6.2)]), fun _ => (B r18), fun _ => (B (!r18)), fun _ => (B (!r18)), fun _ => undef, fun _ => undef, fun _ => undef, fun _ => undef, fun _ => undef, fun _ => undef, fun _ => undef, fun _ => undef, fun _ => undef] () (by kernel_rfl) (by kernel_rfl) ?_ ?_ ?_
      ·intro σm m0
       exact ⟨H.grow (m0.mono fun _ h => h.elim), m0⟩
      ·refine all_cons (by
         refine ⟨?_, ?_⟩
         ·intro _nm ρ σm hJ hoff hdep
          have e4 := look_off (N := 40) (hoff 4 rfl) rfl
          obtain ⟨H, m⟩ := id hJ
          have hc17 := H.cells 0 rfl
          exact dp_v (v := (.agg #[(I x6.1), (I x6.2)])) wn (rv_load (cs := [(I x6.1), (I x6.2)]) Try.underlying31 rfl ti31 e4 rfl hc17) rfl hJ
         trivial) ?_
       refine all_cons (by
         refine ⟨?_, ?_⟩
         ·intro _nm ρ σm hJ hoff hdep
          have e15 : look 40 ρ 15 = (.agg #[(I x6.1), (I x6.2)]) := hdep 0 rfl rfl 15 rfl
          obtain ⟨H, m⟩ := id hJ
          refine dp_cx wn (cx_call hc20 (ent_f hc20.fn (by show [look 40 ρ 15] = _; rw [e15])) hn0 (show Hp S0 σ0 _ ([] ++ [Ch.bx n0 b13 0 [(I x6.1), (I x6.2)] [] [], Ch.ro 0 (Sl alist_0 list_0 clist_0) list_0]) from (H.sel' [0, 1] rfl rfl))) ?_
          rintro _ σq ⟨_, ⟨rfl, rfl⟩, H2, m2⟩
          exact ⟨_, (), rfl, rfl, ⟨H2.sel' [0, 1] rfl rfl, m.comp0 m2⟩, stab [0] (by kernel_rfl) ⟨rfl, trivial⟩⟩
         trivial) ?_
       refine ac rfl (by
         intro k _nm ρ σm hJ hoff hdep
         have e16 := hdep 1 rfl rfl 16 rfl
         exact dp_v (v := (B (!r18))) wn (rv_not e16) rfl hJ) ?_
       refine ac rfl (by
         intro k _nm ρ σm hJ hoff hdep
         have e17 := hdep 2 rfl rfl 17 rfl
         exact dp_v (v := (B (!r18))) wn (rv_move e17) rfl hJ) ?_
       refine ac rfl (by
         intro k _nm ρ σm hJ hoff hdep
         have e18 := hdep 3 rfl rfl 18 rfl
         exact dp_skip (wanted_no rfl (yv_of rfl (e18.trans (congrArg B hb21)))) rfl hJ) ?_
       refine ac rfl (by
         intro k _nm ρ σm hJ hoff hdep
         have e18 := hdep 3 rfl rfl 18 rfl
         exact dp_skip (wanted_no rfl (yv_of rfl (e18.trans (congrArg B hb21)))) rfl hJ) ?_
       refine ac rfl (by
         intro k _nm ρ σm hJ hoff hdep
         have e18 := hdep 3 rfl rfl 18 rfl
         exact dp_skip (wanted_no rfl (yv_of rfl (e18.trans (congrArg B hb21)))) rfl hJ) ?_
       refine ac rfl (by
         intro k _nm ρ σm hJ hoff hdep
         have e21 := hdep 6 rfl rfl 21 rfl
         exact dp_skip (wanted_u rfl (yv_undef rfl e21)) rfl hJ) ?_
       refine ac rfl (by
         intro k _nm ρ σm hJ hoff hdep
         have e21 := hdep 6 rfl rfl 21 rfl
         exact dp_skip (wanted_u rfl (yv_undef rfl e21)) rfl hJ) ?_
       refine ac rfl (by
         intro k _nm ρ σm hJ hoff hdep
         have e21 := hdep 6 rfl rfl 21 rfl
         exact dp_skip (wanted_u rfl (yv_undef rfl e21)) rfl hJ) ?_
       refine ac rfl (by
         intro k _nm ρ σm hJ hoff hdep
         have e21 := hdep 6 rfl rfl 21 rfl
         exact dp_skip (wanted_u rfl (yv_undef rfl e21)) rfl hJ) ?_
       refine ac rfl (by
         intro k _nm ρ σm hJ hoff hdep
         have e21 := hdep 6 rfl rfl 21 rfl
         exact dp_skip (wanted_u rfl (yv_undef rfl e21)) rfl hJ) ?_
       refine ac rfl (by
         intro k _nm ρ σm hJ hoff hdep
         have e21 := hdep 6 rfl rfl 21 rfl
         exact dp_skip (wanted_u rfl (yv_undef rfl e21)) rfl hJ) ?_
       exact all_nil
      ·intro _nm ρ σ22 hJ hoff hrel
       have e0 := look_off (N := 40) (hoff 0 rfl) rfl
       have e3 := look_off (N := 40) (hoff 3 rfl) rfl
       have e4 := look_off (N := 40) (hoff 4 rfl) rfl
       have e8 := look_off (N := 40) (hoff 8 rfl) rfl
       have e9 := look_off (N := 40) (hoff 9 rfl) rfl
       have e10 := look_off (N := 40) (hoff 10 rfl) rfl
       have e18 := hrel 3 rfl 18 rfl
       have e21 := hrel 6 rfl 21 rfl
       have e26 := hrel 11 rfl 26 rfl
       have e27 := hrel 12 rfl 27 rfl
       obtain ⟨H, -⟩ := (show Hp S0 σ0 σ22 [Ch.bx n0 b13 0 [(I x6.1), (I x6.2)] [] [], Ch.ro 0 (Sl alist_0 list_0 clist_0) list_0] ∧ Md (cov []) σ15 σ22 from hJ)
       clear hJ Hs
       rw [fr_lookL (L := [(0, (Sl alist_0 list_0 clist_0)), (3, (I s3)), (4, (pt b13 0)), (8, (Sl alist_0 list_0 clist_0)), (9, (I (list_0.length : Int))), (10, (I s3)), (18, (B (!r18))), (21, undef), (26, undef), (27, undef)]) ⟨e0, e3, e4, e8, e9, e10, e18, e21, e26, e27, trivial⟩]
       clear hoff hrel e0 e3 e4 e8 e9 e10 e18 e21 e26 e27
       refine st_skip_u rfl ?_
       refine st_skip_u rfl ?_
       refine st_skip (congrArg some hb21) ?_
       refine st (v := (B true)) (rv_pick_t (congrArg B hb21) rfl) ?_
       refine w_end ?_
       obtain rfl := Option.some.inj h
       exact ⟨rfl, _, σ22, fr_join ⟨rfl, rfl, rfl, rfl, rfl, rfl, rfl, trivial⟩, rfl, H.sel' [1, 0] rfl rfl⟩
     ·replace h := bif_f hb21 h
      rcases Bool.eq_false_or_eq_true (decide (0 < s3)) with hb23 | hb23
      ·replace h := bif_t hb23 h
       obtain ⟨x24, hx25, h'⟩ := bind_some h
       clear h
       have h := h'; clear h'
       obtain ⟨b27, o28, hi26, -⟩ := (H.ro 1 rfl).ix hx25
       obtain ⟨_, ⟨_, _, rfl, rfl, rfl⟩, hl29, hc30⟩ := ((H.ro 1 rfl).at hx25 hi26).cells
       have hc31 := H.cells 0 rfl
       have Hs := H
       refine rg2 (σ := σ15) (Nm := Unit) 13 [1] [[false], [true]] [[(0, 0)], [(0, 1)], [(1, 1)], [(1, 1)], [(1, 1)], [(1, 1)], [(1, 1)], [(1, 1)], [(1, 1)], [(1, 1)], [(1, 1)], [(1, 1)], [(1, 1)]] 1 [fun _ => fun σm => Hp S0 σ0 σm [Ch.bx n0 b13 0 [(I x6.1), (I x6.2)] [] [], Ch.ro 0 (Sl alist_0 list_0 clist_0) list_0] ∧ Md (cov []) σ15 σm, fun _ => fun σm => Hp S0 σ0 σm [Ch.bx n0 b13 0 [(I x6.1), (I x6.2)] [] [], Ch.ro 0 (Sl alist_0 list_0 clist_0) list_0] ∧ Md (cov []) σ15 σm] [fun _ => (.agg #[(I x6.1), (I x6.2)]), fun _ => (B r18), fun _ => (B (!r18)), fun _ => (B (!r18)), fun _ => (I s3), fun _ => (B (decide (0 < s3))), fun _ => (B (decide (0 < s3))), fun _ => (Sl alist_0 list_0 clist_0), fun _ => (I s3), fun _ => (I (w64 (s3 - 1))), fun _ => (pt b27 o28), fun _ => (.agg #[(I x24.1), (I x24.2)]), fun _ => (.agg #[(I x6.1), (I x6.2)])] () (by kernel_rfl) (by kernel_rfl) ?_ ?_ ?_
       ·intro σm m0
        exact ⟨H.grow (m0.mono fun _ h => h.elim), m0⟩
       ·refine all_cons (by
          refine ⟨?_, ?_⟩
          ·intro _nm ρ σm hJ hoff hdep
           have e4 := look_off (N := 40) (hoff 4 rfl) rfl
           obtain ⟨H, m⟩ := id hJ
           have hc17 := H.cells 0 rfl
           exact dp_v (v := (.agg #[(I x6.1), (I x6.2)])) wn (rv_load (cs := [(I x6.1), (I x6.2)]) Try.underlying31 rfl ti31 e4 rfl hc17) rfl hJ
          trivial) ?_
        refine all_cons (by
          refine ⟨?_, ?_⟩
          ·intro _nm ρ σm hJ hoff hdep
           have e15 : look 40 ρ 15 = (.agg #[(I x6.1), (I x6.2)]) := hdep 0 rfl rfl 15 rfl
           obtain ⟨H, m⟩ := id hJ
           refine dp_cx wn (cx_call hc20 (ent_f hc20.fn (by show [look 40 ρ 15] = _; rw [e15])) hn0 (show Hp S0 σ0 _ ([] ++ [Ch.bx n0 b13 0 [(I x6.1), (I x6.2)] [] [], Ch.ro 0 (Sl alist_0 list_0 clist_0) list_0]) from (H.sel' [0, 1] rfl rfl))) ?_
           rintro _ σq ⟨_, ⟨rfl, rfl⟩, H2, m2⟩
           exact ⟨_, (), rfl, rfl, ⟨H2.sel' [0, 1] rfl rfl, m.comp0 m2⟩, stab [0] (by kernel_rfl) ⟨rfl, trivial⟩⟩
          trivial) ?_
        refine ac rfl (by
          intro k _nm ρ σm hJ hoff hdep
          have e16 := hdep 1 rfl rfl 16 rfl
          exact dp_v (v := (B (!r18))) wn (rv_not e16) rfl hJ) ?_
        refine ac rfl (by
          intro k _nm ρ σm hJ hoff hdep
          have e17 := hdep 2 rfl rfl 17 rfl
          exact dp_v (v := (B (!r18))) wn (rv_move e17) rfl hJ) ?_
        refine ac rfl (by
          intro k _nm ρ σm hJ hoff hdep
          have e3 := look_off (N := 40) (hoff 3 rfl) rfl
          have e18 := hdep 3 rfl rfl 18 rfl
          exact dp_v (v := (I s3)) (wanted_yes rfl (yv_of rfl (e18.trans (congrArg B hb21)))) (rv_move e3) rfl hJ) ?_
        refine ac rfl (by
          intro k _nm ρ σm hJ hoff hdep
          have e19 := hdep 4 rfl rfl 19 rfl
          have e18 := hdep 3 rfl rfl 18 rfl
          exact dp_v (v := (B (decide (0 < s3)))) (wanted_yes rfl (yv_of rfl (e18.trans (congrArg B hb21)))) (rv_gtr (a := s3) (b := 0) e19 rfl) rfl hJ) ?_
        refine ac rfl (by
          intro k _nm ρ σm hJ hoff hdep
          have e20 := hdep 5 rfl rfl 20 rfl
          have e18 := hdep 3 rfl rfl 18 rfl
          exact dp_v (v := (B (decide (0 < s3)))) (wanted_yes rfl (yv_of rfl (e18.trans (congrArg B hb21)))) (rv_move e20) rfl hJ) ?_
        refine ac rfl (by
          intro k _nm ρ σm hJ hoff hdep
          have e0 := look_off (N := 40) (hoff 0 rfl) rfl
          have e21 := hdep 6 rfl rfl 21 rfl
          exact dp_v (v := (Sl alist_0 list_0 clist_0)) (wanted_yes rfl (yv_of rfl (e21.trans (congrArg B hb23)))) (rv_move e0) rfl hJ) ?_
        refine ac rfl (by
          intro k _nm ρ σm hJ hoff hdep
          have e3 := look_off (N := 40) (hoff 3 rfl) rfl
          have e21 := hdep 6 rfl rfl 21 rfl
          exact dp_v (v := (I s3)) (wanted_yes rfl (yv_of rfl (e21.trans (congrArg B hb23)))) (rv_move e3) rfl hJ) ?_
        refine ac rfl (by
          intro k _nm ρ σm hJ hoff hdep
          have e23 := hdep 8 rfl rfl 23 rfl
          have e21 := hdep 6 rfl rfl 21 rfl
          exact dp_v (v := (I (w64 (s3 - 1)))) (wanted_yes rfl (yv_of rfl (e21.trans (congrArg B hb23)))) (rv_sub (a := s3) (b := 1) e23 rfl) rfl hJ) ?_
        refine ac rfl (by
          intro k _nm ρ σm hJ hoff hdep
          have e22 := hdep 7 rfl rfl 22 rfl
          have e24 := hdep 9 rfl rfl 24 rfl
          have e21 := hdep 6 rfl rfl 21 rfl
          exact dp_v (v := (pt b27 o28)) (wanted_yes rfl (yv_of rfl (e21.trans (congrArg B hb23)))) (rv_ix Try.underlying27 ti31 e22 e24 hi26) rfl hJ) ?_
        refine all_cons (by
          refine ⟨?_, ?_⟩
          ·intro _nm ρ σm hJ hoff hdep
           have e25 := hdep 10 rfl rfl 25 rfl
           have e21 := hdep 6 rfl rfl 21 rfl
           obtain ⟨H, m⟩ := id hJ
           replace hc30 := fun j hj => (Hs.ro 1 rfl).hmd hx25 hi26 (k := j) (Nat.lt_of_lt_of_eq hj hl29) (hc30 j hj) m
           exact dp_v (v := (.agg #[(I x24.1), (I x24.2)])) (wanted_yes rfl (yv_of rfl (e21.trans (congrArg B hb23)))) (rv_load Try.underlying31 rfl ti31 e25 hl29 hc30) rfl hJ
          trivial) ?_
        refine all_cons (by
          refine ⟨?_, ?_⟩
          ·intro _nm ρ σm hJ hoff hdep
           have e4 := look_off (N := 40) (hoff 4 rfl) rfl
           have e21 := hdep 6 rfl rfl 21 rfl
           obtain ⟨H, m⟩ := id hJ
           have hc31 := H.cells 0 rfl
           exact dp_v (v := (.agg #[(I x6.1), (I x6.2)])) (wanted_yes rfl (yv_of rfl (e21.trans (congrArg B hb23)))) (rv_load (cs := [(I x6.1), (I x6.2)]) Try.underlying31 rfl ti31 e4 rfl hc31) rfl hJ
          trivial) ?_
        exact all_nil
       ·intro _nm ρ σ32 hJ hoff hrel
        have e0 := look_off (N := 40) (hoff 0 rfl) rfl
        have e3 := look_off (N := 40) (hoff 3 rfl) rfl
        have e4 := look_off (N := 40) (hoff 4 rfl) rfl
        have e8 := look_off (N := 40) (hoff 8 rfl) rfl
        have e9 := look_off (N := 40) (hoff 9 rfl) rfl
        have e10 := look_off (N := 40) (hoff 10 rfl) rfl
        have e18 := hrel 3 rfl 18 rfl
        have e21 := hrel 6 rfl 21 rfl
        have e26 := hrel 11 rfl 26 rfl
        have e27 := hrel 12 rfl 27 rfl
        obtain ⟨H, -⟩ := (show Hp S0 σ0 σ32 [Ch.bx n0 b13 0 [(I x6.1), (I x6.2)] [] [], Ch.ro 0 (Sl alist_0 list_0 clist_0) list_0] ∧ Md (cov []) σ15 σ32 from hJ)
        clear hJ Hs
        rw [fr_lookL (L := [(0, (Sl alist_0 list_0 clist_0)), (3, (I s3)), (4, (pt b13 0)), (8, (Sl alist_0 list_0 clist_0)), (9, (I (list_0.length : Int))), (10, (I s3)), (18, (B (!r18))), (21, (B (decide (0 < s3)))), (26, (.agg #[(I x24.1), (I x24.2)])), (27, (.agg #[(I x6.1), (I x6.2)]))]) ⟨e0, e3, e4, e8, e9, e10, e18, e21, e26, e27, trivial⟩]
        clear hoff hrel e0 e3 e4 e8 e9 e10 e18 e21 e26 e27
        obtain ⟨r33, hx34, h'⟩ := bind_some h
        clear h
        have h := h'; clear h'
        have hc35 := c_impl_compareHits hx34
        refine st_call (cx_call hc35 (ent_f hc35.fn rfl) hn0 (show Hp S0 σ0 _ ([] ++ [Ch.bx n0 b13 0 [(I x6.1), (I x6.2)] [] [], Ch.ro 0 (Sl alist_0 list_0 clist_0) list_0]) from (H.sel' [0, 1] rfl rfl))) (wanted_yes rfl (by exact (congrArg some hb23))) ?_
        rintro _ σ36 ⟨_, ⟨rfl, rfl⟩, H, -⟩
        replace H : Hp S0 σ0 σ36 [Ch.bx n0 b13 0 [(I x6.1), (I x6.2)] [] [], Ch.ro 0 (Sl alist_0 list_0 clist_0) list_0] := H
        refine st_g (v := (B (decide (0 ≤ r33)))) (congrArg some hb23) (rv_geq (a := r33) (b := 0) rfl rfl) ?_
        refine st_g (v := (B (decide (0 ≤ r33)))) (congrArg some hb21) (rv_pick_t (congrArg B hb23) rfl) ?_
        refine st (v := (B (decide (0 ≤ r33)))) (rv_pick_f (congrArg B hb21) rfl) ?_
        refine w_end ?_
        obtain rfl := Option.some.inj h
        exact ⟨rfl, _, σ36, fr_join ⟨rfl, rfl, rfl, rfl, rfl, rfl, rfl, trivial⟩, rfl, H.sel' [1, 0] rfl rfl⟩
      ·replace h := bif_f hb23 h
       have Hs := H
       refine rg2 (σ := σ15) (Nm := Unit) 13 [1] [[false], [true]] [[(0, 0)], [(0, 1)], [(1, 1)], [(1, 1)], [(1, 1)], [(1, 1)], [(1, 1)], [(1, 1)], [(1, 1)], [(1, 1)], [(1, 1)], [(1, 1)], [(1, 1)]] 1 [fun _ => fun σm => Hp S0 σ0 σm [Ch.bx n0 b13 0 [(I x6.1), (I x6.2)] [] [], Ch.ro 0 (Sl alist_0 list_0 clist_0) list_0] ∧ Md (cov []) σ15 σm, fun _ => fun σm => Hp S0 σ0 σm [Ch.bx n0 b13 0 [(I x6.1), (I x6.2)] [] [], Ch.ro 0 (Sl alist_0 list_0 clist_0) list_0] ∧ Md (cov []) σ15 σm] [fun _ => (.agg #[(I x6.1), (I x6.2)]), fun _ => (B r18), fun _ => (B (!r18)), fun _ => (B (!r18)), fun _ => (I s3), fun _ => (B (decide (0 < s3))), fun _ => (B (decide (0 < s3))), fun _ => undef, fun _ => undef, fun _ => undef, fun _ => undef, fun _ => undef, fun _ => undef] () (by kernel_rfl) (by kernel_rfl) ?_ ?_ ?_
       ·intro σm m0
        exact ⟨H.grow (m0.mono fun _ h => h.elim), m0⟩
       ·refine all_cons (by
          refine ⟨?_, ?_⟩
          ·intro _nm ρ σm hJ hoff hdep
           have e4 := look_off (N := 40) (hoff 4 rfl) rfl
           obtain ⟨H, m⟩ := id hJ
           have hc17 := H.cells 0 rfl
           exact dp_v (v := (.agg #[(I x6.1), (I x6.2)])) wn (rv_load (cs := [(I x6.1), (I x6.2)]) Try.underlying31 rfl ti31 e4 rfl hc17) rfl hJ
          trivial) ?_
        refine all_cons (by
          refine ⟨?_, ?_⟩
          ·intro _nm ρ σm hJ hoff hdep
           have e15 : look 40 ρ 15 = (.agg #[(I x6.1), (I x6.2)]) := hdep 0 rfl rfl 15 rfl
           obtain ⟨H, m⟩ := id hJ
           refine dp_cx wn (cx_call hc20 (ent_f hc20.fn (by show [look 40 ρ 15] = _; rw [e15])) hn0 (show Hp S0 σ0 _ ([] ++ [Ch.bx n0 b13 0 [(I x6.1), (I x6.2)] [] [], Ch.ro 0 (Sl alist_0 list_0 clist_0) list_0]) from (H.sel' [0, 1] rfl rfl))) ?_
           rintro _ σq ⟨_, ⟨rfl, rfl⟩, H2, m2⟩
           exact ⟨_, (), rfl, rfl, ⟨H2.sel' [0, 1] rfl rfl, m.comp0 m2⟩, stab [0] (by kernel_rfl) ⟨rfl, trivial⟩⟩
          trivial) ?_
        refine ac rfl (by
          intro k _nm ρ σm hJ hoff hdep
          have e16 := hdep 1 rfl rfl 16 rfl
          exact dp_v (v := (B (!r18))) wn (rv_not e16) rfl hJ) ?_
        refine ac rfl (by
          intro k _nm ρ σm hJ hoff hdep
          have e17 := hdep 2 rfl rfl 17 rfl
          exact dp_v (v := (B (!r18))) wn (rv_move e17) rfl hJ) ?_
        refine ac rfl (by
          intro k _nm ρ σm hJ hoff hdep
          have e3 := look_off (N := 40) (hoff 3 rfl) rfl
          have e18 := hdep 3 rfl rfl 18 rfl
          exact dp_v (v := (I s3)) (wanted_yes rfl (yv_of rfl (e18.trans (congrArg B hb21)))) (rv_move e3) rfl hJ) ?_
        refine ac rfl (by
          intro k _nm ρ σm hJ hoff hdep
          have e19 := hdep 4 rfl rfl 19 rfl
          have e18 := hdep 3 rfl rfl 18 rfl
          exact dp_v (v := (B (decide (0 < s3)))) (wanted_yes rfl (yv_of rfl (e18.trans (congrArg B hb21)))) (rv_gtr (a := s3) (b := 0) e19 rfl) rfl hJ) ?_
        refine ac rfl (by
          intro k _nm ρ σm hJ hoff hdep
          have e20 := hdep 5 rfl rfl 20 rfl
          have e18 := hdep 3 rfl rfl 18 rfl
          exact dp_v (v := (B (decide (0 < s3)))) (wanted_yes rfl (yv_of rfl (e18.trans (congrArg B hb21)))) (rv_move e20) rfl hJ) ?_
        refine ac rfl (by
          intro k _nm ρ σm hJ hoff hdep
          have e21 := hdep 6 rfl rfl 21 rfl
          exact dp_skip (wanted_no rfl (yv_of rfl (e21.trans (congrArg B hb23)))) rfl hJ) ?_
        refine ac rfl (by
          intro k _nm ρ σm hJ hoff hdep
          have e21 := hdep 6 rfl rfl 21 rfl
          exact dp_skip (wanted_no rfl (yv_of rfl (e21.trans (congrArg B hb23)))) rfl hJ) ?_
        refine ac rfl (by
          intro k _nm ρ σm hJ hoff hdep
          have e21 := hdep 6 rfl rfl 21 rfl
          exact dp_skip (wanted_no rfl (yv_of rfl (e21.trans (congrArg B hb23)))) rfl hJ) ?_
        refine ac rfl (by
          intro k _nm ρ σm hJ hoff hdep
          have e21 := hdep 6 rfl rfl 21 rfl
          exact dp_skip (wanted_no rfl (yv_of rfl (e21.trans (congrArg B hb23)))) rfl hJ) ?_
        refine ac rfl (by
          intro k _nm ρ σm hJ hoff hdep
          have e21 := hdep 6 rfl rfl 21 rfl
          exact dp_skip (wanted_no rfl (yv_of rfl (e21.trans (congrArg B hb23)))) rfl hJ) ?_
        refine ac rfl (by
          intro k _nm ρ σm hJ hoff hdep
          have e21 := hdep 6 rfl rfl 21 rfl
          exact dp_skip (wanted_no rfl (yv_of rfl (e21.trans (congrArg B hb23)))) rfl hJ) ?_
        exact all_nil
       ·intro _nm ρ σ37 hJ hoff hrel
        have e0 := look_off (N := 40) (hoff 0 rfl) rfl
        have e3 := look_off (N := 40) (hoff 3 rfl) rfl
        have e4 := look_off (N := 40) (hoff 4 rfl) rfl
        have e8 := look_off (N := 40) (hoff 8 rfl) rfl
        have e9 := look_off (N := 40) (hoff 9 rfl) rfl
        have e10 := look_off (N := 40) (hoff 10 rfl) rfl
        have e18 := hrel 3 rfl 18 rfl
        have e21 := hrel 6 rfl 21 rfl
        have e26 := hrel 11 rfl 26 rfl
        have e27 := hrel 12 rfl 27 rfl
        obtain ⟨H, -⟩ := (show Hp S0 σ0 σ37 [Ch.bx n0 b13 0 [(I x6.1), (I x6.2)] [] [], Ch.ro 0 (Sl alist_0 list_0 clist_0) list_0] ∧ Md (cov []) σ15 σ37 from hJ)
        clear hJ Hs
        rw [fr_lookL (L := [(0, (Sl alist_0 list_0 clist_0)), (3, (I s3)), (4, (pt b13 0)), (8, (Sl alist_0 list_0 clist_0)), (9, (I (list_0.length : Int))), (10, (I s3)), (18, (B (!r18))), (21, (B (decide (0 < s3)))), (26, undef), (27, undef)]) ⟨e0, e3, e4, e8, e9, e10, e18, e21, e26, e27, trivial⟩]
        clear hoff hrel e0 e3 e4 e8 e9 e10 e18 e21 e26 e27
        refine st_skip (congrArg some hb23) ?_
        refine st_skip (congrArg some hb23) ?_
        refine st_g (v := (B false)) (congrArg some hb21) (rv_pick_f (congrArg B hb23) rfl) ?_
        refine st (v := (B false)) (rv_pick_f (congrArg B hb21) rfl) ?_
        refine w_end ?_
        obtain rfl := Option.some.inj h
        exact ⟨rfl, _, σ37, fr_join ⟨rfl, rfl, rfl, rfl, rfl, rfl, rfl, trivial⟩, rfl, H.sel' [1, 0] rfl rfl⟩
    ·clear hj
     have h := h'
     clear h' H
     rintro e a w ⟨rfl, ρ, σ38, rfl, rfl, H⟩
     refine q_then ?_
     refine cd_cond o16 rfl (fun hb39 => ?_) (fun hb39 => ?_)
     ·replace h := bif_t hb39 h
      refine c_seq ?_
      refine rg ?_
      refine st (v := (B false)) (rv_assign rfl) ?_
      refine w_end ?_
      refine q_then ?_
      refine c_ret ?_
      refine q_then_r ?_
      refine q_blk_r ?_
      refine q_then_r ?_
      refine q_then_r ?_
      refine q_blk_r ?_
      obtain rfl := Option.some.inj h
      obtain rfl := hres _ rfl
      exact .inr (⟨_, rfl, rfl, _, σ38, fr_join ⟨rfl, trivial⟩, rfl, H.sel' [] rfl rfl⟩)
     ·replace h := bif_f hb39 h
      refine c_skip ?_
      refine q_then ?_
      refine c_seq ?_
      refine rgP (σ := σ38) 5 (by kernel_rfl) (by kernel_rfl) (by kernel_rfl) ?_
      refine sq (v := (Sl alist_0 list_0 clist_0)) (rv_move rfl) ?_
      refine sq (v := (I s3)) (rv_move rfl) ?_
      obtain ⟨xs40, hx41, h'⟩ := bind_some h
      clear h
      have h := h'; clear h'
      obtain ⟨a42, c43, hs44, hR45⟩ := (H.ro 0 rfl).slice hx41
      replace H := H.add (d := Ch.ro 0 (Sl a42 xs40 c43) xs40) hR45 (fun _ h => h)
      clear hR45
      refine sq (v := (Sl a42 xs40 c43)) (rv_slice_h Try.underlying27 ti31 hs44 rfl rfl) ?_
      refine sq (v := (pt b13 0)) (rv_fieldAddr (off := 0) (ft := 3) Try.underlying31 rfl ti3 rfl rfl) ?_
      have hc46 := H.cell (u := (I x6.1)) (o' := 0) 2 0 rfl rfl rfl
      refine sq (v := (I x6.1)) (rv_load1 Try.underlying3 rfl rfl hc46) ?_
      refine sq_end ?_
      intro σ47 hm48
      replace H := H.grow (hm48.mono fun _ h => h); clear hm48
      obtain ⟨r49, hx50, h'⟩ := bind_some h
      clear h
      have h := h'; clear h'
      have hc51 := c_impl_placeIn (alist_0 := a42) (clist_0 := c43) hx50
      refine st_call (cx_call hc51 (ent_f hc51.fn rfl) hn0 (show Hp S0 σ0 _ ([Ch.ro 0 (Sl a42 xs40 c43) xs40] ++ [Ch.ro 0 (Sl a42 xs40 c43) xs40, Ch.ro 0 (Sl alist_0 list_0 clist_0) list_0, Ch.bx n0 b13 0 [(I x6.1), (I x6.2)] [] []]) from (H.sel' [0, 0, 1, 2] rfl rfl))) wn ?_
      rintro _ σ52 ⟨_, ⟨rfl, rfl⟩, H, -⟩
      replace H : Hp S0 σ0 σ52 [Ch.ro 0 (Sl a42 xs40 c43) xs40, Ch.ro 0 (Sl alist_0 list_0 clist_0) list_0, Ch.bx n0 b13 0 [(I x6.1), (I x6.2)] [] []] := H
      refine st (v := (B (decide (0 ≤ r49)))) (rv_geq (a := r49) (b := 0) rfl rfl) ?_
      refine w_end ?_
      refine q_then ?_
      refine cd_cond (decide (0 ≤ r49)) rfl (fun hb53 => ?_) (fun hb53 => ?_)
      ·replace h := bif_t hb53 h
       refine c_seq ?_
       refine rg ?_
       refine st (v := (B false)) (rv_assign rfl) ?_
       refine w_end ?_
       refine q_then ?_
       refine c_ret ?_
       refine q_blk_r ?_
       refine q_then_r ?_
       refine q_then_r ?_
       refine q_blk_r ?_
       obtain rfl := Option.some.inj h
       obtain rfl := hres _ rfl
       exact .inr (⟨_, rfl, rfl, _, σ52, fr_join ⟨rfl, trivial⟩, rfl, H.sel' [] rfl rfl⟩)
      ·replace h := bif_f hb53 h
       refine c_skip ?_
       refine q_blk ?_
       refine q_then ?_
       refine rg ?_
       refine st (v := (I (w64 (s3 + 1)))) (rv_add (a := s3) (b := 1) rfl rfl) ?_
       refine st (v := (I (w64 (s3 + 1)))) (rv_move rfl) ?_
       refine w_end ?_
       refine q_then ?_
       obtain rfl := Option.some.inj h
       exact ⟨_, rfl, _, σ52, fr_join ⟨rfl, rfl, rfl, rfl, trivial⟩, rfl, H.sel' [1] rfl rfl⟩
   ·replace h := bif_f hb5 h
    refine c_exit ?_
    refine q_then_x ?_
    refine q_then_x ?_
    refine q_blk_hit ?_
    obtain rfl := Option.some.inj h
    obtain rfl := hres _ rfl
    exact .inl ⟨_, rfl, rfl, _, σ4, fr_join trivial, rfl, H.sel' [] rfl rfl⟩
  ·clear hj
   have h := h'
   clear h' H
   rintro e a w (⟨t54, rfl, rfl, ρ, σ55, rfl, rfl, H⟩ | ⟨t56, rfl, rfl, ρ, σ57, rfl, rfl, H⟩)
   ·replace h := selim_l h
    refine q_then ?_
    refine c_seq ?_
    refine rg ?_
    refine st (v := (B true)) (rv_assign rfl) ?_
    refine w_end ?_
    refine q_then ?_
    refine c_ret ?_
    obtain rfl := Option.some.inj h
    exact fin_ret (v := (B true)) (results_ok Try.results17 (res_tmp (v := (B true)) rfl res_nil) rfl) ⟨rfl, rfl⟩ (H.sel' [] rfl rfl)
   ·replace h := selim_r h
    refine q_then_r ?_
    obtain rfl := Option.some.inj h
    exact fin_ret (v := (B t56)) (results_ok Try.results17 (res_tmp (v := (B t56)) rfl res_nil) rfl) ⟨rfl, rfl⟩ (H.sel' [] rfl rfl)

theorem c_impl_RankScore {list_0 : List (Int × Int)} {key_1 : Int} {alist_0 : Option Addr} {clist_0 : Nat} {r : Int} (h : M.impl_RankScore list_0 key_1 = some r) :
    Cal2 Try.prog 24 [(Sl alist_0 list_0 clist_0), (I key_1)] [Ch.ro 0 (Sl alist_0 list_0 clist_0) list_0] (fun n0 v L => v = (I r) ∧ L = []) := by
 refine cal2 (n := 18) Try.func24 rfl rfl rfl rfl ?_
 intro S0 σ0 n0 hn0 H
 unfold M.impl_RankScore at h
 refine c_seq ?_
 refine rg ?_
 refine st (v := (I 0)) (rv_assign rfl) ?_
 refine w_end ?_
 refine q_then ?_
 refine c_seq ?_
 refine c_seq ?_
 refine rg ?_
 refine st (v := (Sl alist_0 list_0 clist_0)) (rv_move rfl) ?_
 obtain ⟨r1, hx2, h'⟩ := bind_some h
 clear h
 have h := h'; clear h'
 have hc3 := c_impl_ValidHits (alist_0 := alist_0) (clist_0 := clist_0) hx2
 refine st_call (cx_call hc3 (ent_f hc3.fn rfl) hn0 (show Hp S0 σ0 _ ([Ch.ro 0 (Sl alist_0 list_0 clist_0) list_0] ++ [Ch.ro 0 (Sl alist_0 list_0 clist_0) list_0]) from (H.sel' [0, 0] rfl rfl))) wn ?_
 rintro _ σ4 ⟨_, ⟨rfl, rfl⟩, H, -⟩
 replace H : Hp S0 σ0 σ4 [Ch.ro 0 (Sl alist_0 list_0 clist_0) list_0] := H
 refine st (v := (B (!r1))) (rv_not rfl) ?_
 refine w_end ?_
 refine q_then ?_
 refine cd_cond (!r1) rfl (fun hb5 => ?_) (fun hb5 => ?_)
 ·replace h := bif_t hb5 h
  refine c_seq ?_
  refine rg ?_
  refine st (v := (I (-1))) (rv_assign rfl) ?_
  refine w_end ?_
  refine q_then ?_
  refine c_ret ?_
  refine q_then_r ?_
  obtain rfl := Option.some.inj h
  exact fin_ret (v := (I (-1))) (results_ok Try.results24 (res_tmp (v := (I (-1))) rfl res_nil) rfl) ⟨rfl, rfl⟩ (H.sel' [] rfl rfl)
 ·replace h := bif_f hb5 h
  refine c_skip ?_
  refine q_then ?_
  refine c_seq ?_
  refine rg ?_
  refine st (v := (Sl alist_0 list_0 clist_0)) (rv_move rfl) ?_
  refine st (v := (I key_1)) (rv_move rfl) ?_
  obtain ⟨r6, hx7, h'⟩ := bind_some h
  clear h
  have h := h'; clear h'
  have hc8 := c_impl_placeIn (alist_0 := alist_0) (clist_0 := clist_0) hx7
  refine st_call (cx_call hc8 (ent_f hc8.fn rfl) hn0 (show Hp S0 σ0 _ ([Ch.ro 0 (Sl alist_0 list_0 clist_0) list_0] ++ [Ch.ro 0 (Sl alist_0 list_0 clist_0) list_0]) from (H.sel' [0, 0] rfl rfl))) wn ?_
  rintro _ σ9 ⟨_, ⟨rfl, rfl⟩, H, -⟩
  replace H : Hp S0 σ0 σ9 [Ch.ro 0 (Sl alist_0 list_0 clist_0) list_0] := H
  refine st (v := (I r6)) (rv_assign rfl) ?_
  refine w_end ?_
  refine q_then ?_
  refine c_seq ?_
  refine c_seq ?_
  refine rg ?_
  refine st (v := (I r6)) (rv_move rfl) ?_
  refine st (v := (B (decide (r6 < 0)))) (rv_lss (a := r6) (b := 0) rfl rfl) ?_
  refine w_end ?_
  refine q_then ?_
  refine cd_cond (decide (r6 < 0)) rfl (fun hb10 => ?_) (fun hb10 => ?_)
  ·replace h := bif_t hb10 h
   refine c_seq ?_
   refine rg ?_
   refine st (v := (I 0)) (rv_assign rfl) ?_
   refine w_end ?_
   refine q_then ?_
   refine c_ret ?_
   refine q_then_r ?_
   obtain rfl := Option.some.inj h
   exact fin_ret (v := (I 0)) (results_ok Try.results24 (res_tmp (v := (I 0)) rfl res_nil) rfl) ⟨rfl, rfl⟩ (H.sel' [] rfl rfl)
  ·replace h := bif_f hb10 h
   refine c_skip ?_
   refine q_then ?_
   refine c_seq ?_
   refine rg ?_
   refine st (v := (I r6)) (rv_move rfl) ?_
   refine st (v := (I (w64 (60 + r6)))) (rv_add (a := 60) (b := r6) rfl rfl) ?_
   refine st (v := (I (w64 ((w64 (60 + r6)) + 1)))) (rv_add (a := (w64 (60 + r6))) (b := 1) rfl rfl) ?_
   obtain ⟨q11, hx12, h'⟩ := bind_some h
   clear h
   have h := h'; clear h'
   refine st (v := (I q11)) (rv_quoG (a := 100000) (b := (w64 ((w64 (60 + r6)) + 1))) hx12 rfl rfl) ?_
   refine st (v := (I q11)) (rv_assign rfl) ?_
   refine w_end ?_
   refine q_then ?_
   refine c_ret ?_
   obtain rfl := Option.some.inj h
   exact fin_ret (v := (I q11)) (results_ok Try.results24 (res_tmp (v := (I q11)) rfl res_nil) rfl) ⟨rfl, rfl⟩ (H.sel' [] rfl rfl)

theorem c_spec_newReader {code_0 : List UInt8} {acode_0 : Option Addr} {ccode_0 : Nat} {r : ((List UInt8) × Int)} (h : M.spec_newReader code_0 = some r) :
    Cal2 Try.prog 30 [(Sl acode_0 code_0 ccode_0)] [Ch.ro 0 (Sl acode_0 code_0 ccode_0) code_0] (fun n0 v L => ∃ (bz1 : Nat), ∃ (az2 : Option Addr), ∃ (cz3 : Nat), v = (pt bz1 0) ∧ L = [Ch.bx n0 bz1 0 [(Sl az2 r.1 cz3), (I r.2)] [] [], Ch.ro 0 (Sl az2 r.1 cz3) r.1]) := by
 refine cal2 (n := 11) Try.func30 rfl rfl rfl rfl ?_
 intro S0 σ0 n0 hn0 H
 unfold M.spec_newReader at h
 refine c_seq ?_
 refine rg ?_
 refine st (v := (.pointer none)) (rv_assign rfl) ?_
 refine w_end ?_
 refine q_then ?_
 refine c_seq ?_
 refine c_seq ?_
 refine rg ?_
 refine st (v := (Sl acode_0 code_0 ccode_0)) (rv_move rfl) ?_
 refine st (v := (I (code_0.length : Int))) (rv_len Try.underlying22 rfl) ?_
 refine st (v := (B (decide (2000 < (code_0.length : Int))))) (rv_gtr (a := (code_0.length : Int)) (b := 2000) rfl rfl) ?_
 refine w_end ?_
 refine q_then ?_
 obtain ⟨o1, hj, h'⟩ := bind_some h
 clear h
 refine c_cut (fun e a w => e = .normal ∧ ∃ (ρ : Nat → Value) (σ : St) (aj1 : Option Addr) (cj2 : Nat), a = fr 11 (updL ρ [(0, (Sl aj1 o1 cj2))]) ∧ w = σ.w ∧ Hp S0 σ0 σ [Ch.ro 0 (Sl aj1 o1 cj2) o1]) ?_ ?_
 ·clear h'
  rename _ = some o1 => h
  refine cd_cond (decide (2000 < (code_0.length : Int))) rfl (fun hb2 => ?_) (fun hb2 => ?_)
  ·replace h := bif_t hb2 h
   refine rg ?_
   refine st (v := (Sl acode_0 code_0 ccode_0)) (rv_move rfl) ?_
   obtain ⟨xs3, hx4, h'⟩ := bind_some h
   clear h
   have h := h'; clear h'
   obtain ⟨a5, c6, hs7, hR8⟩ := (H.ro 0 rfl).slice hx4
   replace H := H.add (d := Ch.ro 0 (Sl a5 xs3 c6) xs3) hR8 (fun _ h => h)
   clear hR8
   refine st (v := (Sl a5 xs3 c6)) (rv_slice_h Try.underlying22 ti5 hs7 rfl rfl) ?_
   refine st (v := (Sl a5 xs3 c6)) (rv_assign rfl) ?_
   refine w_end ?_
   obtain rfl := Option.some.inj h
   exact ⟨rfl, _, σ0, a5, c6, fr_join ⟨rfl, trivial⟩, rfl, H.sel' [0] rfl rfl⟩
  ·replace h := bif_f hb2 h
   refine c_skip ?_
   obtain rfl := Option.some.inj h
   exact ⟨rfl, _, σ0, acode_0, ccode_0, fr_join ⟨rfl, trivial⟩, rfl, H.sel' [0] rfl rfl⟩
 ·clear hj
  have h := h'
  clear h' H
  rintro e a w ⟨rfl, ρ, σ9, a10, c11, rfl, rfl, H⟩
  refine q_then ?_
  refine c_seq ?_
  refine rg ?_
  refine st (v := (Sl a10 o1 c11)) (rv_move rfl) ?_
  refine st (v := (.agg #[(Sl a10 o1 c11), (I 0)])) (rv_build (ps := [(0, (Sl a10 o1 c11))]) Try.underlying80 ti80 (bp80 Try.underlying80) rfl (by kernel_rfl)) ?_
  refine st_ex (ex_box (cs := [(Sl a10 o1 c11), (I 0)]) H hn0 rfl rfl) wn ?_
  rintro _ σ13 ⟨b12, rfl, H, -⟩
  refine st (v := (pt b12 0)) (rv_assign rfl) ?_
  refine w_end ?_
  refine q_then ?_
  refine c_ret ?_
  obtain rfl := Option.some.inj h
  exact fin_ret (v := (pt b12 0)) (results_ok Try.results30 (res_tmp (v := (pt b12 0)) rfl res_nil) rfl) ⟨b12, a10, c11, rfl, rfl⟩ (H.sel' [0, 1] rfl rfl)

theorem c_spec_reader_pick {r_0 : (List UInt8) × Int} {n_1 : Int} {ar_0_0 : Option Addr} {cr_0_0 : Nat} {lor_0 br_0 or_0 : Nat} {prer_0 sufr_0 : List Value} {r : Int × ((List UInt8) × Int)} (h : M.spec_reader_pick r_0 n_1 = some r) :
    Cal2 Try.prog 34 [(pt br_0 or_0), (I n_1)] [Ch.bx lor_0 br_0 or_0 [(Sl ar_0_0 r_0.1 cr_0_0), (I r_0.2)] prer_0 sufr_0, Ch.ro 0 (Sl ar_0_0 r_0.1 cr_0_0) r_0.1] (fun n0 v L => ∃ (az1 : Option Addr), ∃ (cz2 : Nat), v = (I r.1) ∧ L = [Ch.bx lor_0 br_0 or_0 [(Sl az1 r.2.1 cz2), (I r.2.2)] prer_0 sufr_0, Ch.ro 0 (Sl az1 r.2.1 cz2) r.2.1]) := by
 refine cal2 (n := 99) Try.func34 rfl rfl rfl rfl ?_
 intro S0 σ0 n0 hn0 H
 unfold M.spec_reader_pick at h
 refine c_seq ?_
 refine rg ?_
 refine st (v := (I 0)) (rv_assign rfl) ?_
 refine w_end ?_
 refine q_then ?_
 refine c_seq ?_
 refine rg ?_
 refine st (v := (pt br_0 or_0)) (rv_move rfl) ?_
 refine st (v := (pt br_0 or_0)) (rv_move rfl) ?_
 refine st (v := (pt br_0 or_0)) (rv_nilCheck rfl) ?_
 refine st (v := (pt br_0 (or_0 + 1))) (rv_fieldAddr (off := 1) (ft := 3) Try.underlying80 rfl ti3 rfl rfl) ?_
 have hc1 := H.cell (u := (I r_0.2)) (o' := (or_0 + 1)) 0 1 rfl rfl rfl
 refine st (v := (I r_0.2)) (rv_load1 Try.underlying3 rfl rfl hc1) ?_
 refine st (v := (I (w64 (r_0.2 + 1)))) (rv_add (a := r_0.2) (b := 1) rfl rfl) ?_
 refine st (v := (pt br_0 or_0)) (rv_nilCheck rfl) ?_
 refine st (v := (pt br_0 (or_0 + 1))) (rv_fieldAddr (off := 1) (ft := 3) Try.underlying80 rfl ti3 rfl rfl) ?_
 refine st_exS (ex_store_box (k := 1) (cs := [(Sl ar_0_0 r_0.1 cr_0_0), (I r_0.2)]) (vs := [(I (w64 (r_0.2 + 1)))]) (cs' := [(Sl ar_0_0 r_0.1 cr_0_0), (I (w64 (r_0.2 + 1)))]) H (i := 0) rfl ti3 rfl rfl rfl rfl rfl (Nat.le_of_ble_eq_true rfl) (by simp [plain]) rfl) wn ?_
 rintro σ2 ⟨H, -⟩
 refine w_end ?_
 refine q_then ?_
 refine c_seq ?_
 refine c_seq ?_
 obtain ⟨o3, hj, h'⟩ := bind_some h
 clear h
 refine c_cut (fun e a w => e = .normal ∧ ∃ (ρ : Nat → Value) (σ : St), a = fr 99 (updL ρ [(0, (pt br_0 or_0)), (1, (I n_1)), (24, (B o3))]) ∧ w = σ.w ∧ Hp S0 σ0 σ [Ch.ro 0 (Sl ar_0_0 r_0.1 cr_0_0) r_0.1, Ch.bx lor_0 br_0 or_0 [(Sl ar_0_0 r_0.1 cr_0_0), (I (w64 (r_0.2 + 1)))] prer_0 sufr_0]) ?_ ?_
 ·clear h'
  rename _ = some o3 => h
  refine rg ?_
  refine st (v := (I n_1)) (rv_move rfl) ?_
  refine st (v := (B (decide (n_1 < 1)))) (rv_lss (a := n_1) (b := 1) rfl rfl) ?_
  refine st (v := (B (decide (n_1 < 1)))) (rv_move rfl) ?_
  rcases Bool.eq_false_or_eq_true (decide (n_1 < 1)) with hb4 | hb4
  ·replace h := bif_t hb4 h
   refine st_skip (congrArg some hb4) ?_
   refine st_skip (congrArg some hb4) ?_
   refine st_skip (congrArg some hb4) ?_
   refine st_skip (congrArg some hb4) ?_
   refine st_skip (congrArg some hb4) ?_
   refine st_skip (congrArg some hb4) ?_
   refine st (v := (B true)) (rv_pick_t (congrArg B hb4) rfl) ?_
   refine w_end ?_
   obtain rfl := Option.some.inj h
   exact ⟨rfl, _, σ2, fr_join ⟨rfl, rfl, rfl, trivial⟩, rfl, H.sel' [1, 0] rfl rfl⟩
  ·replace h := bif_f hb4 h
   refine st_g (v := (pt br_0 or_0)) (congrArg some hb4) (rv_move rfl) ?_
   refine st_g (v := (pt br_0 or_0)) (congrArg some hb4) (rv_nilCheck rfl) ?_
   refine st_g (v := (pt br_0 or_0)) (congrArg some hb4) (rv_fieldAddr (off := 0) (ft := 22) Try.underlying80 rfl ti22 rfl rfl) ?_
   have hc5 := H.cell (u := (Sl ar_0_0 r_0.1 cr_0_0)) (o' := or_0) 0 0 rfl rfl rfl
   refine st_g (v := (Sl ar_0_0 r_0.1 cr_0_0)) (congrArg some hb4) (rv_load1 Try.underlying22 rfl rfl hc5) ?_
   refine st_g (v := (I (r_0.1.length : Int))) (congrArg some hb4) (rv_len Try.underlying22 rfl) ?_
   refine st_g (v := (B ((r_0.1.length : Int) == 0))) (congrArg some hb4) (rv_eql (a := (r_0.1.length : Int)) (b := 0) rfl rfl) ?_
   refine st (v := (B ((r_0.1.length : Int) == 0))) (rv_pick_f (congrArg B hb4) rfl) ?_
   refine w_end ?_
   obtain rfl := Option.some.inj h
   exact ⟨rfl, _, σ2, fr_join ⟨rfl, rfl, rfl, trivial⟩, rfl, H.sel' [1, 0] rfl rfl⟩
 ·clear hj
  have h := h'
  clear h' H
  rintro e a w ⟨rfl, ρ, σ6, rfl, rfl, H⟩
  refine q_then ?_
  refine cd_cond o3 rfl (fun hb7 => ?_) (fun hb7 => ?_)
  ·replace h := bif_t hb7 h
   refine c_seq ?_
   refine rg ?_
   refine st (v := (I 0)) (rv_assign rfl) ?_
   refine w_end ?_
   refine q_then ?_
   refine c_ret ?_
   refine q_then_r ?_
   obtain rfl := Option.some.inj h
   exact fin_ret (v := (I 0)) (results_ok Try.results34 (res_tmp (v := (I 0)) rfl res_nil) rfl) ⟨ar_0_0, cr_0_0, rfl, rfl⟩ (H.sel' [1, 0] rfl rfl)
  ·replace h := bif_f hb7 h
   refine c_skip ?_
   refine q_then ?_
   refine c_seq ?_
   refine rg ?_
   refine st (v := (pt br_0 or_0)) (rv_move rfl) ?_
   refine st (v := (pt br_0 or_0)) (rv_nilCheck rfl) ?_
   refine st (v := (pt br_0 (or_0 + 1))) (rv_fieldAddr (off := 1) (ft := 3) Try.underlying80 rfl ti3 rfl rfl) ?_
   have hc8 := H.cell (u := (I (w64 (r_0.2 + 1)))) (o' := (or_0 + 1)) 1 1 rfl rfl rfl
   refine st (v := (I (w64 (r_0.2 + 1)))) (rv_load1 Try.underlying3 rfl rfl hc8) ?_
   refine st (v := (I (w64 ((w64 (r_0.2 + 1)) - 1)))) (rv_sub (a := (w64 (r_0.2 + 1))) (b := 1) rfl rfl) ?_
   refine st (v := (I (w64 ((w64 (r_0.2 + 1)) - 1)))) (rv_assign rfl) ?_
   refine w_end ?_
   refine q_then ?_
   refine c_seq ?_
   refine c_seq ?_
   refine rg ?_
   refine st (v := (I (w64 ((w64 (r_0.2 + 1)) - 1)))) (rv_move rfl) ?_
   refine st (v := (pt br_0 or_0)) (rv_move rfl) ?_
   refine st (v := (pt br_0 or_0)) (rv_nilCheck rfl) ?_
   refine st (v := (pt br_0 or_0)) (rv_fieldAddr (off := 0) (ft := 22) Try.underlying80 rfl ti22 rfl rfl) ?_
   have hc9 := H.cell (u := (Sl ar_0_0 r_0.1 cr_0_0)) (o' := or_0) 1 0 rfl rfl rfl
   refine st (v := (Sl ar_0_0 r_0.1 cr_0_0)) (rv_load1 Try.underlying22 rfl rfl hc9) ?_
   refine st (v := (I (r_0.1.length : Int))) (rv_len Try.underlying22 rfl) ?_
   refine st (v := (B (decide ((w64 ((w64 (r_0.2 + 1)) - 1)) < (r_0.1.length : Int))))) (rv_lss (a := (w64 ((w64 (r_0.2 + 1)) - 1))) (b := (r_0.1.length : Int)) rfl rfl) ?_
   refine w_end ?_
   refine q_then ?_
   refine cd_cond (decide ((w64 ((w64 (r_0.2 + 1)) - 1)) < (r_0.1.length : Int))) rfl (fun hb10 => ?_) (fun hb10 => ?_)
   ·replace h := bif_t hb10 h
    refine c_seq ?_
    refine rg ?_
    refine st (v := (pt br_0 or_0)) (rv_move rfl) ?_
    refine st (v := (pt br_0 or_0)) (rv_nilCheck rfl) ?_
    refine st (v := (pt br_0 or_0)) (rv_fieldAddr (off := 0) (ft := 22) Try.underlying80 rfl ti22 rfl rfl) ?_
    have hc11 := H.cell (u := (Sl ar_0_0 r_0.1 cr_0_0)) (o' := or_0) 1 0 rfl rfl rfl
    refine st (v := (Sl ar_0_0 r_0.1 cr_0_0)) (rv_load1 Try.underlying22 rfl rfl hc11) ?_
    refine st (v := (I (w64 ((w64 (r_0.2 + 1)) - 1)))) (rv_move rfl) ?_
    obtain ⟨x12, hx13, h'⟩ := bind_some h
    clear h
    have h := h'; clear h'
    obtain ⟨b15, o16, hi14, -⟩ := (H.ro 0 rfl).ix hx13
    refine st (v := (pt b15 o16)) (rv_ix Try.underlying22 ti5 rfl rfl hi14) ?_
    have hc17 := ((H.ro 0 rfl).at hx13 hi14).byte
    refine st (v := (.int .u8 (x12.toNat : Int))) (rv_load1 Try.underlying5 rfl rfl hc17) ?_
    refine st (v := (I (w64 (x12.toNat : Int)))) (rv_conv Try.underlying5 Try.underlying3 rfl) ?_
    refine st (v := (I n_1)) (rv_move rfl) ?_
    obtain ⟨q18, hx19, h'⟩ := bind_some h
    clear h
    have h := h'; clear h'
    refine st (v := (I q18)) (rv_remG (a := (w64 (x12.toNat : Int))) (b := n_1) hx19 rfl rfl) ?_
    refine st (v := (I q18)) (rv_assign rfl) ?_
    refine w_end ?_
    refine q_then ?_
    refine c_ret ?_
    refine q_then_r ?_
    obtain rfl := Option.some.inj h
    exact fin_ret (v := (I q18)) (results_ok Try.results34 (res_tmp (v := (I q18)) rfl res_nil) rfl) ⟨ar_0_0, cr_0_0, rfl, rfl⟩ (H.sel' [1, 0] rfl rfl)
   ·replace h := bif_f hb10 h
    refine c_skip ?_
    refine q_then ?_
    refine c_seq ?_
    refine rgP (σ := σ6) 44 (by kernel_rfl) (by kernel_rfl) (by kernel_rfl) ?_
    refine sq (v := (pt br_0 or_0)) (rv_move rfl) ?_
    refine sq (v := (pt br_0 or_0)) (rv_nilCheck rfl) ?_
    refine sq (v := (pt br_0 or_0)) (rv_fieldAddr (off := 0) (ft := 22) Try.underlying80 rfl ti22 rfl rfl) ?_
    have hc20 := H.cell (u := (Sl ar_0_0 r_0.1 cr_0_0)) (o' := or_0) 1 0 rfl rfl rfl
    refine sq (v := (Sl ar_0_0 r_0.1 cr_0_0)) (rv_load1 Try.underlying22 rfl rfl hc20) ?_
    refine sq (v := (I (w64 ((w64 (r_0.2 + 1)) - 1)))) (rv_move rfl) ?_
    refine sq (v := (pt br_0 or_0)) (rv_move rfl) ?_
    refine sq (v := (pt br_0 or_0)) (rv_nilCheck rfl) ?_
    refine sq (v := (pt br_0 or_0)) (rv_fieldAddr (off := 0) (ft := 22) Try.underlying80 rfl ti22 rfl rfl) ?_
    have hc21 := H.cell (u := (Sl ar_0_0 r_0.1 cr_0_0)) (o' := or_0) 1 0 rfl rfl rfl
    refine sq (v := (Sl ar_0_0 r_0.1 cr_0_0)) (rv_load1 Try.underlying22 rfl rfl hc21) ?_
    refine sq (v := (I (r_0.1.length : Int))) (rv_len Try.underlying22 rfl) ?_
    obtain ⟨q22, hx23, h'⟩ := bind_some h
    clear h
    have h := h'; clear h'
    refine sq (v := (I q22)) (rv_remG (a := (w64 ((w64 (r_0.2 + 1)) - 1))) (b := (r_0.1.length : Int)) hx23 rfl rfl) ?_
    obtain ⟨x24, hx25, h'⟩ := bind_some h
    clear h
    have h := h'; clear h'
    obtain ⟨b27, o28, hi26, -⟩ := (H.ro 0 rfl).ix hx25
    refine sq (v := (pt b27 o28)) (rv_ix Try.underlying22 ti5 rfl rfl hi26) ?_
    have hc29 := ((H.ro 0 rfl).at hx25 hi26).byte
    refine sq (v := (.int .u8 (x24.toNat : Int))) (rv_load1 Try.underlying5 rfl rfl hc29) ?_
    refine sq (v := (I (w64 (x24.toNat : Int)))) (rv_conv Try.underlying5 Try.underlying3 rfl) ?_
    refine sq (v := (I (w64 ((w64 (x24.toNat : Int)) * 131)))) (rv_mul (a := (w64 (x24.toNat : Int))) (b := 131) rfl rfl) ?_
    refine sq (v := (pt br_0 or_0)) (rv_move rfl) ?_
    refine sq (v := (pt br_0 or_0)) (rv_nilCheck rfl) ?_
    refine sq (v := (pt br_0 or_0)) (rv_fieldAddr (off := 0) (ft := 22) Try.underlying80 rfl ti22 rfl rfl) ?_
    have hc30 := H.cell (u := (Sl ar_0_0 r_0.1 cr_0_0)) (o' := or_0) 1 0 rfl rfl rfl
    refine sq (v := (Sl ar_0_0 r_0.1 cr_0_0)) (rv_load1 Try.underlying22 rfl rfl hc30) ?_
    refine sq (v := (I (w64 ((w64 (r_0.2 + 1)) - 1)))) (rv_move rfl) ?_
    refine sq (v := (I (w64 ((w64 ((w64 (r_0.2 + 1)) - 1)) * 7)))) (rv_mul (a := (w64 ((w64 (r_0.2 + 1)) - 1))) (b := 7) rfl rfl) ?_
    refine sq (v := (I (w64 ((w64 ((w64 ((w64 (r_0.2 + 1)) - 1)) * 7)) + 3)))) (rv_add (a := (w64 ((w64 ((w64 (r_0.2 + 1)) - 1)) * 7))) (b := 3) rfl rfl) ?_
    refine sq (v := (pt br_0 or_0)) (rv_move rfl) ?_
    refine sq (v := (pt br_0 or_0)) (rv_nilCheck rfl) ?_
    refine sq (v := (pt br_0 or_0)) (rv_fieldAddr (off := 0) (ft := 22) Try.underlying80 rfl ti22 rfl rfl) ?_
    have hc31 := H.cell (u := (Sl ar_0_0 r_0.1 cr_0_0)) (o' := or_0) 1 0 rfl rfl rfl
    refine sq (v := (Sl ar_0_0 r_0.1 cr_0_0)) (rv_load1 Try.underlying22 rfl rfl hc31) ?_
    refine sq (v := (I (r_0.1.length : Int))) (rv_len Try.underlying22 rfl) ?_
    obtain ⟨q32, hx33, h'⟩ := bind_some h
    clear h
    have h := h'; clear h'
    refine sq (v := (I q32)) (rv_remG (a := (w64 ((w64 ((w64 ((w64 (r_0.2 + 1)) - 1)) * 7)) + 3))) (b := (r_0.1.length : Int)) hx33 rfl rfl) ?_
    obtain ⟨x34, hx35, h'⟩ := bind_some h
    clear h
    have h := h'; clear h'
    obtain ⟨b37, o38, hi36, -⟩ := (H.ro 0 rfl).ix hx35
    refine sq (v := (pt b37 o38)) (rv_ix Try.underlying22 ti5 rfl rfl hi36) ?_
    have hc39 := ((H.ro 0 rfl).at hx35 hi36).byte
    refine sq (v := (.int .u8 (x34.toNat : Int))) (rv_load1 Try.underlying5 rfl rfl hc39) ?_
    refine sq (v := (I (w64 (x34.toNat : Int)))) (rv_conv Try.underlying5 Try.underlying3 rfl) ?_
    refine sq (v := (I (w64 ((w64 (x34.toNat : Int)) * 1117)))) (rv_mul (a := (w64 (x34.toNat : Int))) (b := 1117) rfl rfl) ?_
    refine sq (v := (I (w64 ((w64 ((w64 (x24.toNat : Int)) * 131)) + (w64 ((w64 (x34.toNat : Int)) * 1117)))))) (rv_add (a := (w64 ((w64 (x24.toNat : Int)) * 131))) (b := (w64 ((w64 (x34.toNat : Int)) * 1117))) rfl rfl) ?_
    refine sq (v := (I (w64 ((w64 (r_0.2 + 1)) - 1)))) (rv_move rfl) ?_
    refine sq (v := (I (w64 ((w64 ((w64 (r_0.2 + 1)) - 1)) * 29)))) (rv_mul (a := (w64 ((w64 (r_0.2 + 1)) - 1))) (b := 29) rfl rfl) ?_
    refine sq (v := (I (w64 ((w64 ((w64 ((w64 (x24.toNat : Int)) * 131)) + (w64 ((w64 (x34.toNat : Int)) * 1117)))) + (w64 ((w64 ((w64 (r_0.2 + 1)) - 1)) * 29)))))) (rv_add (a := (w64 ((w64 ((w64 (x24.toNat : Int)) * 131)) + (w64 ((w64 (x34.toNat : Int)) * 1117))))) (b := (w64 ((w64 ((w64 (r_0.2 + 1)) - 1)) * 29))) rfl rfl) ?_
    refine sq (v := (I (w64 ((w64 (r_0.2 + 1)) - 1)))) (rv_move rfl) ?_
    refine sq (v := (pt br_0 or_0)) (rv_move rfl) ?_
    refine sq (v := (pt br_0 or_0)) (rv_nilCheck rfl) ?_
    refine sq (v := (pt br_0 or_0)) (rv_fieldAddr (off := 0) (ft := 22) Try.underlying80 rfl ti22 rfl rfl) ?_
    have hc40 := H.cell (u := (Sl ar_0_0 r_0.1 cr_0_0)) (o' := or_0) 1 0 rfl rfl rfl
    refine sq (v := (Sl ar_0_0 r_0.1 cr_0_0)) (rv_load1 Try.underlying22 rfl rfl hc40) ?_
    refine sq (v := (I (r_0.1.length : Int))) (rv_len Try.underlying22 rfl) ?_
    obtain ⟨q41, hx42, h'⟩ := bind_some h
    clear h
    have h := h'; clear h'
    refine sq (v := (I q41)) (rv_quoG (a := (w64 ((w64 (r_0.2 + 1)) - 1))) (b := (r_0.1.length : Int)) hx42 rfl rfl) ?_
    refine sq (v := (I (w64 (q41 * 53)))) (rv_mul (a := q41) (b := 53) rfl rfl) ?_
    refine sq_end ?_
    intro σ43 hm44
    replace H := H.grow (hm44.mono fun _ h => h); clear hm44
    refine st (v := (I (w64 ((w64 ((w64 ((w64 ((w64 (x24.toNat : Int)) * 131)) + (w64 ((w64 (x34.toNat : Int)) * 1117)))) + (w64 ((w64 ((w64 (r_0.2 + 1)) - 1)) * 29)))) + (w64 (q41 * 53)))))) (rv_add (a := (w64 ((w64 ((w64 ((w64 (x24.toNat : Int)) * 131)) + (w64 ((w64 (x34.toNat : Int)) * 1117)))) + (w64 ((w64 ((w64 (r_0.2 + 1)) - 1)) * 29))))) (b := (w64 (q41 * 53))) rfl rfl) ?_
    refine st (v := (I (w64 ((w64 ((w64 ((w64 ((w64 (x24.toNat : Int)) * 131)) + (w64 ((w64 (x34.toNat : Int)) * 1117)))) + (w64 ((w64 ((w64 (r_0.2 + 1)) - 1)) * 29)))) + (w64 (q41 * 53)))))) (rv_assign rfl) ?_
    refine w_end ?_
    refine q_then ?_
    refine c_seq ?_
    refine rg ?_
    refine st (v := (I (w64 ((w64 ((w64 ((w64 ((w64 (x24.toNat : Int)) * 131)) + (w64 ((w64 (x34.toNat : Int)) * 1117)))) + (w64 ((w64 ((w64 (r_0.2 + 1)) - 1)) * 29)))) + (w64 (q41 * 53)))))) (rv_move rfl) ?_
    refine st (v := (I (w64 ((w64 ((w64 ((w64 ((w64 (x24.toNat : Int)) * 131)) + (w64 ((w64 (x34.toNat : Int)) * 1117)))) + (w64 ((w64 ((w64 (r_0.2 + 1)) - 1)) * 29)))) + (w64 (q41 * 53)))))) (rv_move rfl) ?_
    refine st (v := (I (w64 ((w64 ((w64 ((w64 ((w64 ((w64 (x24.toNat : Int)) * 131)) + (w64 ((w64 (x34.toNat : Int)) * 1117)))) + (w64 ((w64 ((w64 (r_0.2 + 1)) - 1)) * 29)))) + (w64 (q41 * 53)))).tdiv 64)))) (rv_quo (a := (w64 ((w64 ((w64 ((w64 ((w64 (x24.toNat : Int)) * 131)) + (w64 ((w64 (x34.toNat : Int)) * 1117)))) + (w64 ((w64 ((w64 (r_0.2 + 1)) - 1)) * 29)))) + (w64 (q41 * 53))))) (b := 64) rfl rfl (by decide)) ?_
    refine st (v := (I (gxor (w64 ((w64 ((w64 ((w64 ((w64 (x24.toNat : Int)) * 131)) + (w64 ((w64 (x34.toNat : Int)) * 1117)))) + (w64 ((w64 ((w64 (r_0.2 + 1)) - 1)) * 29)))) + (w64 (q41 * 53)))) (w64 ((w64 ((w64 ((w64 ((w64 ((w64 (x24.toNat : Int)) * 131)) + (w64 ((w64 (x34.toNat : Int)) * 1117)))) + (w64 ((w64 ((w64 (r_0.2 + 1)) - 1)) * 29)))) + (w64 (q41 * 53)))).tdiv 64))))) (rv_xor (a := (w64 ((w64 ((w64 ((w64 ((w64 (x24.toNat : Int)) * 131)) + (w64 ((w64 (x34.toNat : Int)) * 1117)))) + (w64 ((w64 ((w64 (r_0.2 + 1)) - 1)) * 29)))) + (w64 (q41 * 53))))) (b := (w64 ((w64 ((w64 ((w64 ((w64 ((w64 (x24.toNat : Int)) * 131)) + (w64 ((w64 (x34.toNat : Int)) * 1117)))) + (w64 ((w64 ((w64 (r_0.2 + 1)) - 1)) * 29)))) + (w64 (q41 * 53)))).tdiv 64))) rfl rfl) ?_
    refine st (v := (I (gxor (w64 ((w64 ((w64 ((w64 ((w64 (x24.toNat : Int)) * 131)) + (w64 ((w64 (x34.toNat : Int)) * 1117)))) + (w64 ((w64 ((w64 (r_0.2 + 1)) - 1)) * 29)))) + (w64 (q41 * 53)))) (w64 ((w64 ((w64 ((w64 ((w64 ((w64 (x24.toNat : Int)) * 131)) + (w64 ((w64 (x34.toNat : Int)) * 1117)))) + (w64 ((w64 ((w64 (r_0.2 + 1)) - 1)) * 29)))) + (w64 (q41 * 53)))).tdiv 64))))) (rv_assign rfl) ?_
    refine w_end ?_
    refine q_then ?_
    refine c_seq ?_
    refine rg ?_
    refine st (v := (I (gxor (w64 ((w64 ((w64 ((w64 ((w64 (x24.toNat : Int)) * 131)) + (w64 ((w64 (x34.toNat : Int)) * 1117)))) + (w64 ((w64 ((w64 (r_0.2 + 1)) - 1)) * 29)))) + (w64 (q41 * 53)))) (w64 ((w64 ((w64 ((w64 ((w64 ((w64 (x24.toNat : Int)) * 131)) + (w64 ((w64 (x34.toNat : Int)) * 1117)))) + (w64 ((w64 ((w64 (r_0.2 + 1)) - 1)) * 29)))) + (w64 (q41 * 53)))).tdiv 64))))) (rv_move rfl) ?_
    refine st (v := (I n_1)) (rv_move rfl) ?_
    obtain ⟨q45, hx46, h'⟩ := bind_some h
    clear h
    have h := h'; clear h'
    refine st (v := (I q45)) (rv_remG (a := (gxor (w64 ((w64 ((w64 ((w64 ((w64 (x24.toNat : Int)) * 131)) + (w64 ((w64 (x34.toNat : Int)) * 1117)))) + (w64 ((w64 ((w64 (r_0.2 + 1)) - 1)) * 29)))) + (w64 (q41 * 53)))) (w64 ((w64 ((w64 ((w64 ((w64 ((w64 (x24.toNat : Int)) * 131)) + (w64 ((w64 (x34.toNat : Int)) * 1117)))) + (w64 ((w64 ((w64 (r_0.2 + 1)) - 1)) * 29)))) + (w64 (q41 * 53)))).tdiv 64)))) (b := n_1) hx46 rfl rfl) ?_
    refine st (v := (I q45)) (rv_assign rfl) ?_
    refine w_end ?_
    refine q_then ?_
    refine c_ret ?_
    obtain rfl := Option.some.inj h
    exact fin_ret (v := (I q45)) (results_ok Try.results34 (res_tmp (v := (I q45)) rfl res_nil) rfl) ⟨ar_0_0, cr_0_0, rfl, rfl⟩ (H.sel' [1, 0] rfl rfl)

theorem c_spec_nearer {a_0 : Int × Int} {b_1 : Int × Int}  {r : Bool} (h : M.spec_nearer a_0 b_1 = some r) :
    Cal2 Try.prog 78 [(.agg #[(I a_0.1), (I a_0.2)]), (.agg #[(I b_1.1), (I b_1.2)])] [] (fun n0 v L => v = (B r) ∧ L = []) := by
 refine cal2 (n := 24) Try.func78 rfl rfl rfl rfl ?_
 intro S0 σ0 n0 hn0 H
 unfold M.spec_nearer at h
 refine c_seq ?_
 refine rg ?_
 refine st_ex (ex_box (cs := [(I a_0.1), (I a_0.2)]) H hn0 rfl rfl) wn ?_
 rintro _ σ2 ⟨b1, rfl, H, -⟩
 refine st_ex (ex_box (cs := [(I b_1.1), (I b_1.2)]) H hn0 rfl rfl) wn ?_
 rintro _ σ4 ⟨b3, rfl, H, -⟩
 refine st (v := (B false)) (rv_assign rfl) ?_
 refine w_end ?_
 refine q_then ?_
 refine c_seq ?_
 refine rg ?_
 refine st (v := (pt b1 1)) (rv_fieldAddr (off := 1) (ft := 3) Try.underlying31 rfl ti3 rfl rfl) ?_
 have hc5 := H.cell (u := (I a_0.2)) (o' := 1) 1 1 rfl rfl rfl
 refine st (v := (I a_0.2)) (rv_load1 Try.underlying3 rfl rfl hc5) ?_
 refine st (v := (pt b3 1)) (rv_fieldAddr (off := 1) (ft := 3) Try.underlying31 rfl ti3 rfl rfl) ?_
 have hc6 := H.cell (u := (I b_1.2)) (o' := 1) 0 1 rfl rfl rfl
 refine st (v := (I b_1.2)) (rv_load1 Try.underlying3 rfl rfl hc6) ?_
 refine st (v := (B (decide (a_0.2 < b_1.2)))) (rv_lss (a := a_0.2) (b := b_1.2) rfl rfl) ?_
 refine st (v := (B (decide (a_0.2 < b_1.2)))) (rv_move rfl) ?_
 rcases Bool.eq_false_or_eq_true (decide (a_0.2 < b_1.2)) with hb7 | hb7
 ·replace h := bif_t hb7 h
  refine st_skip (congrArg some hb7) ?_
  refine st_skip (congrArg some hb7) ?_
  refine st_skip (congrArg some hb7) ?_
  refine st_skip (congrArg some hb7) ?_
  refine st_skip (congrArg some hb7) ?_
  refine st_skip (congrArg some hb7) ?_
  refine st_skip_u rfl ?_
  refine st_skip_u rfl ?_
  refine st_skip_u rfl ?_
  refine st_skip_u rfl ?_
  refine st_skip_u rfl ?_
  refine st_skip (congrArg some hb7) ?_
  refine st (v := (B true)) (rv_pick_t (congrArg B hb7) rfl) ?_
  refine st (v := (B true)) (rv_assign rfl) ?_
  refine w_end ?_
  refine q_then ?_
  refine c_ret ?_
  obtain rfl := Option.some.inj h
  exact fin_ret (v := (B true)) (results_ok Try.results78 (res_tmp (v := (B true)) rfl res_nil) rfl) ⟨rfl, rfl⟩ (H.sel' [] rfl rfl)
 ·replace h := bif_f hb7 h
  refine st_g (v := (pt b1 1)) (congrArg some hb7) (rv_fieldAddr (off := 1) (ft := 3) Try.underlying31 rfl ti3 rfl rfl) ?_
  have hc8 := H.cell (u := (I a_0.2)) (o' := 1) 1 1 rfl rfl rfl
  refine st_g (v := (I a_0.2)) (congrArg some hb7) (rv_load1 Try.underlying3 rfl rfl hc8) ?_
  refine st_g (v := (pt b3 1)) (congrArg some hb7) (rv_fieldAddr (off := 1) (ft := 3) Try.underlying31 rfl ti3 rfl rfl) ?_
  have hc9 := H.cell (u := (I b_1.2)) (o' := 1) 0 1 rfl rfl rfl
  refine st_g (v := (I b_1.2)) (congrArg some hb7) (rv_load1 Try.underlying3 rfl rfl hc9) ?_
  refine st_g (v := (B (a_0.2 == b_1.2))) (congrArg some hb7) (rv_eql (a := a_0.2) (b := b_1.2) rfl rfl) ?_
  refine st_g (v := (B (a_0.2 == b_1.2))) (congrArg some hb7) (rv_move rfl) ?_
  rcases Bool.eq_false_or_eq_true (a_0.2 == b_1.2) with hb10 | hb10
  ·replace h := bif_t hb10 h
   refine st_g (v := (pt b1 0)) (congrArg some hb10) (rv_fieldAddr (off := 0) (ft := 3) Try.underlying31 rfl ti3 rfl rfl) ?_
   have hc11 := H.cell (u := (I a_0.1)) (o' := 0) 1 0 rfl rfl rfl
   refine st_g (v := (I a_0.1)) (congrArg some hb10) (rv_load1 Try.underlying3 rfl rfl hc11) ?_
   refine st_g (v := (pt b3 0)) (congrArg some hb10) (rv_fieldAddr (off := 0) (ft := 3) Try.underlying31 rfl ti3 rfl rfl) ?_
   have hc12 := H.cell (u := (I b_1.1)) (o' := 0) 0 0 rfl rfl rfl
   refine st_g (v := (I b_1.1)) (congrArg some hb10) (rv_load1 Try.underlying3 rfl rfl hc12) ?_
   refine st_g (v := (B (decide (a_0.1 < b_1.1)))) (congrArg some hb10) (rv_lss (a := a_0.1) (b := b_1.1) rfl rfl) ?_
   refine st_g (v := (B (decide (a_0.1 < b_1.1)))) (congrArg some hb7) (rv_pick_t (congrArg B hb10) rfl) ?_
   refine st (v := (B (decide (a_0.1 < b_1.1)))) (rv_pick_f (congrArg B hb7) rfl) ?_
   refine st (v := (B (decide (a_0.1 < b_1.1)))) (rv_assign rfl) ?_
   refine w_end ?_
   refine q_then ?_
   refine c_ret ?_
   obtain rfl := Option.some.inj h
   exact fin_ret (v := (B (decide (a_0.1 < b_1.1)))) (results_ok Try.results78 (res_tmp (v := (B (decide (a_0.1 < b_1.1)))) rfl res_nil) rfl) ⟨rfl, rfl⟩ (H.sel' [] rfl rfl)
  ·replace h := bif_f hb10 h
   refine st_skip (congrArg some hb10) ?_
   refine st_skip (congrArg some hb10) ?_
   refine st_skip (congrArg some hb10) ?_
   refine st_skip (congrArg some hb10) ?_
   refine st_skip (congrArg some hb10) ?_
   refine st_g (v := (B false)) (congrArg some hb7) (rv_pick_f (congrArg B hb10) rfl) ?_
   refine st (v := (B false)) (rv_pick_f (congrArg B hb7) rfl) ?_
   refine st (v := (B false)) (rv_assign rfl) ?_
   refine w_end ?_
   refine q_then ?_
   refine c_ret ?_
   obtain rfl := Option.some.inj h
   exact fin_ret (v := (B false)) (results_ok Try.results78 (res_tmp (v := (B false)) rfl res_nil) rfl) ⟨rfl, rfl⟩ (H.sel' [] rfl rfl)

theorem c_spec_addHit {list_0 : List (Int × Int)} {h_1 : Int × Int} {k_2 : Int} {alist_0 : Option Addr} {clist_0 : Nat} {r : (List (Int × Int))} (h : M.spec_addHit list_0 h_1 k_2 = some r) :
    Cal2 Try.prog 53 [(Sl alist_0 list_0 clist_0), (.agg #[(I h_1.1), (I h_1.2)]), (I k_2)] [Ch.ro 0 (Sl alist_0 list_0 clist_0) list_0] (fun n0 v L => ∃ (az1 : Option Addr), ∃ (cz2 : Nat), v = (Sl az1 r cz2) ∧ L = [Ch.own n0 n0 (Sl az1 r cz2) r]) := by
 refine cal2 (n := 58) Try.func53 rfl rfl rfl rfl ?_
 intro S0 σ0 n0 hn0 H
 unfold M.spec_addHit at h
 refine c_seq ?_
 refine rg ?_
 refine st_ex (ex_box (cs := [(I h_1.1), (I h_1.2)]) H hn0 rfl rfl) wn ?_
 rintro _ σ2 ⟨b1, rfl, H, -⟩
 refine st (v := (.slice none 0 0)) (rv_assign rfl) ?_
 refine w_end ?_
 refine q_then ?_
 refine c_seq ?_
 obtain ⟨xs4, hx5, h'⟩ := bind_some h
 clear h
 have h := h'; clear h'
 have hc8 := H.cells 0 rfl
 have Hs := H
 refine rg2 (σ := σ2) (Nm := (Nat) × (Option Addr) × (Nat) × (Nat)) 5 [0, 2, 4] [[false, false, false], [true, false, false], [false, false, true], [true, true, false], [true, false, true], [true, true, true]] [[(0, 1), (2, 4)], [(0, 0), (1, 1), (2, 2), (4, 4)], [(1, 3), (4, 5)], [(0, 0), (1, 1), (3, 3)], [(0, 2), (1, 4), (3, 5)]] 5 [fun ((b3, a6, c7, b9) : (Nat) × (Option Addr) × (Nat) × (Nat)) => fun σm => Hp S0 σ0 σm [Ch.bx n0 b1 0 [(I h_1.1), (I h_1.2)] [] [], Ch.ro 0 (Sl alist_0 list_0 clist_0) list_0] ∧ Md (cov []) σ2 σm, fun ((b3, a6, c7, b9) : (Nat) × (Option Addr) × (Nat) × (Nat)) => fun σm => Hp S0 σ0 σm [Ch.own n0 n0 (Sl (some ⟨b3, 0, none⟩) ([] : List (Int × Int)) 0) ([] : List (Int × Int)), Ch.bx n0 b1 0 [(I h_1.1), (I h_1.2)] [] [], Ch.ro 0 (Sl alist_0 list_0 clist_0) list_0] ∧ Md (cov []) σ2 σm, fun ((b3, a6, c7, b9) : (Nat) × (Option Addr) × (Nat) × (Nat)) => fun σm => Hp S0 σ0 σm [Ch.own n0 n0 (Sl (some ⟨b9, 0, none⟩) ([(h_1.1, h_1.2)] : List (Int × Int)) 1) ([(h_1.1, h_1.2)] : List (Int × Int)), Ch.bx n0 b1 0 [(I h_1.1), (I h_1.2)] [] [], Ch.ro 0 (Sl alist_0 list_0 clist_0) list_0] ∧ Md (cov []) σ2 σm, fun ((b3, a6, c7, b9) : (Nat) × (Option Addr) × (Nat) × (Nat)) => fun σm => Hp S0 σ0 σm [Ch.own n0 n0 (Sl a6 xs4 c7) xs4, Ch.bx n0 b1 0 [(I h_1.1), (I h_1.2)] [] [], Ch.ro 0 (Sl alist_0 list_0 clist_0) list_0] ∧ Md (fun i => (cov []) i ∨ (fun b => blk (Sl (some ⟨b3, 0, none⟩) ([] : List (Int × Int)) 0) = some b) i) σ2 σm, fun ((b3, a6, c7, b9) : (Nat) × (Option Addr) × (Nat) × (Nat)) => fun σm => Hp S0 σ0 σm [Ch.own n0 n0 (Sl (some ⟨b9, 0, none⟩) ([(h_1.1, h_1.2)] : List (Int × Int)) 1) ([(h_1.1, h_1.2)] : List (Int × Int)), Ch.own n0 n0 (Sl (some ⟨b3, 0, none⟩) ([] : List (Int × Int)) 0) ([] : List (Int × Int)), Ch.bx n0 b1 0 [(I h_1.1), (I h_1.2)] [] [], Ch.ro 0 (Sl alist_0 list_0 clist_0) list_0] ∧ Md (cov []) σ2 σm, fun ((b3, a6, c7, b9) : (Nat) × (Option Addr) × (Nat) × (Nat)) => fun σm => Hp S0 σ0 σm [Ch.own n0 n0 (Sl (some ⟨b9, 0, none⟩) ([(h_1.1, h_1.2)] : List (Int × Int)) 1) ([(h_1.1, h_1.2)] : List (Int × Int)), Ch.own n0 n0 (Sl a6 xs4 c7) xs4, Ch.bx n0 b1 0 [(I h_1.1), (I h_1.2)] [] [], Ch.ro 0 (Sl alist_0 list_0 clist_0) list_0] ∧ Md (fun i => (cov []) i ∨ (fun b => blk (Sl (some ⟨b3, 0, none⟩) ([] : List (Int × Int)) 0) = some b) i) σ2 σm] [fun ((b3, a6, c7, b9) : (Nat) × (Option Addr) × (Nat) × (Nat)) => (Sl (some ⟨b3, 0, none⟩) ([] : List (Int × Int)) 0), fun ((b3, a6, c7, b9) : (Nat) × (Option Addr) × (Nat) × (Nat)) => (Sl alist_0 list_0 clist_0), fun ((b3, a6, c7, b9) : (Nat) × (Option Addr) × (Nat) × (Nat)) => (Sl a6 xs4 c7), fun ((b3, a6, c7, b9) : (Nat) × (Option Addr) × (Nat) × (Nat)) => (.agg #[(I h_1.1), (I h_1.2)]), fun ((b3, a6, c7, b9) : (Nat) × (Option Addr) × (Nat) × (Nat)) => (Sl (some ⟨b9, 0, none⟩) ([(h_1.1, h_1.2)] : List (Int × Int)) 1)] (0, none, 0, 0) (by kernel_rfl) (by kernel_rfl) ?_ ?_ ?_
 ·intro σm m0
  exact ⟨H.grow (m0.mono fun _ h => h.elim), m0⟩
 ·refine all_cons (by
    refine ⟨?_, ?_⟩
    ·rintro ⟨b3, a6, c7, b9⟩ ρ σm hJ hoff hdep
     obtain ⟨H, m⟩ := id hJ
     refine dp_ex wn (ex_buildSlice (el := n0) (xs := ([] : List (Int × Int))) (ps := []) (cs := []) H hn0 Try.underlying27 ti31 rfl rfl (by kernel_rfl) (.nil) rfl) ?_
     rintro _ σq ⟨b3x, rfl, H2, m2⟩
     exact ⟨_, (b3x, a6, c7, b9), rfl, rfl, ⟨H2.sel' [0, 1, 2] rfl rfl, m.comp0 m2⟩, stab [1, 3, 4] (by kernel_rfl) ⟨rfl, rfl, rfl, trivial⟩⟩
    refine ⟨?_, ?_⟩
    ·rintro ⟨b3, a6, c7, b9⟩ ρ σm hJ hoff hdep
     obtain ⟨H, m⟩ := id hJ
     refine dp_ex wn (ex_buildSlice (el := n0) (xs := ([] : List (Int × Int))) (ps := []) (cs := []) H hn0 Try.underlying27 ti31 rfl rfl (by kernel_rfl) (.nil) rfl) ?_
     rintro _ σq ⟨b3x, rfl, H2, m2⟩
     exact ⟨_, (b3x, a6, c7, b9), rfl, rfl, ⟨H2.sel' [1, 0, 2, 3] rfl rfl, m.comp0 m2⟩, stab [1, 3, 4] (by kernel_rfl) ⟨rfl, rfl, rfl, trivial⟩⟩
    trivial) ?_
  refine ac rfl (by
    intro k; rintro ⟨b3, a6, c7, b9⟩ ρ σm hJ hoff hdep
    have e0 := look_off (N := 58) (hoff 0 rfl) rfl
    exact dp_v (v := (Sl alist_0 list_0 clist_0)) wn (rv_move e0) rfl hJ) ?_
  refine all_cons (by
    refine ⟨?_, ?_⟩
    ·rintro ⟨b3, a6, c7, b9⟩ ρ σm hJ hoff hdep
     have e10 := hdep 0 rfl rfl 10 rfl
     have e11 := hdep 1 rfl rfl 11 rfl
     obtain ⟨H, m⟩ := id hJ
     refine dp_ex wn (ex_append H (i := 0) rfl Try.underlying27 Try.underlying27 ti31 rfl rfl (by decide) ((H.ro 2 rfl).rd.sc) hx5 hn0 e10 e11) ?_
     rintro _ σq ⟨a6x, c7x, rfl, H2, m2⟩
     exact ⟨_, (b3, a6x, c7x, b9), rfl, rfl, ⟨H2.sel' [0, 1, 2] rfl rfl, m.comp m2⟩, stab [0, 1, 3, 4] (by kernel_rfl) ⟨rfl, rfl, rfl, rfl, trivial⟩⟩
    refine ⟨?_, ?_⟩
    ·rintro ⟨b3, a6, c7, b9⟩ ρ σm hJ hoff hdep
     have e10 := hdep 0 rfl rfl 10 rfl
     have e11 := hdep 1 rfl rfl 11 rfl
     obtain ⟨H, m⟩ := id hJ
     refine dp_ex wn (ex_append H (i := 1) rfl Try.underlying27 Try.underlying27 ti31 rfl rfl (by decide) ((H.ro 3 rfl).rd.sc) hx5 hn0 e10 e11) ?_
     rintro _ σq ⟨a6x, c7x, rfl, H2, m2⟩
     exact ⟨_, (b3, a6x, c7x, b9), rfl, rfl, ⟨H2.sel' [1, 0, 2, 3] rfl rfl, m.comp m2⟩, stab [0, 1, 3, 4] (by kernel_rfl) ⟨rfl, rfl, rfl, rfl, trivial⟩⟩
    trivial) ?_
  refine all_cons (by
    refine ⟨?_, ?_⟩
    ·rintro ⟨b3, a6, c7, b9⟩ ρ σm hJ hoff hdep
     have e4 := look_off (N := 58) (hoff 4 rfl) rfl
     obtain ⟨H, m⟩ := id hJ
     have hc8 := H.cells 0 rfl
     exact dp_v (v := (.agg #[(I h_1.1), (I h_1.2)])) wn (rv_load (cs := [(I h_1.1), (I h_1.2)]) Try.underlying31 rfl ti31 e4 rfl hc8) rfl hJ
    refine ⟨?_, ?_⟩
    ·rintro ⟨b3, a6, c7, b9⟩ ρ σm hJ hoff hdep
     have e4 := look_off (N := 58) (hoff 4 rfl) rfl
     obtain ⟨H, m⟩ := id hJ
     have hc8 := H.cells 1 rfl
     exact dp_v (v := (.agg #[(I h_1.1), (I h_1.2)])) wn (rv_load (cs := [(I h_1.1), (I h_1.2)]) Try.underlying31 rfl ti31 e4 rfl hc8) rfl hJ
    refine ⟨?_, ?_⟩
    ·rintro ⟨b3, a6, c7, b9⟩ ρ σm hJ hoff hdep
     have e4 := look_off (N := 58) (hoff 4 rfl) rfl
     obtain ⟨H, m⟩ := id hJ
     have hc8 := H.cells 1 rfl
     exact dp_v (v := (.agg #[(I h_1.1), (I h_1.2)])) wn (rv_load (cs := [(I h_1.1), (I h_1.2)]) Try.underlying31 rfl ti31 e4 rfl hc8) rfl hJ
    trivial) ?_
  refine all_cons (by
    refine ⟨?_, ?_⟩
    ·rintro ⟨b3, a6, c7, b9⟩ ρ σm hJ hoff hdep
     have e13 : look 58 ρ 13 = (.agg #[(I h_1.1), (I h_1.2)]) := hdep 3 rfl rfl 13 rfl
     obtain ⟨H, m⟩ := id hJ
     refine dp_ex wn (ex_buildSlice (el := n0) (xs := ([(h_1.1, h_1.2)] : List (Int × Int))) (ps := [(0, (.agg #[(I h_1.1), (I h_1.2)]))]) (cs := [(I h_1.1), (I h_1.2)]) H hn0 Try.underlying27 ti31 rfl (by show [(0, look 58 ρ 13)] = _; rw [e13]) (by kernel_rfl) (.cons (c := [(I h_1.1), (I h_1.2)]) ⟨[(I h_1.1)], [(I h_1.2)], rfl, rfl, rfl⟩ (.nil)) rfl) ?_
     rintro _ σq ⟨b9x, rfl, H2, m2⟩
     exact ⟨_, (b3, a6, c7, b9x), rfl, rfl, ⟨H2.sel' [0, 1, 2] rfl rfl, m.comp0 m2⟩, stab [0, 1, 2, 3] (by kernel_rfl) ⟨rfl, rfl, rfl, rfl, trivial⟩⟩
    refine ⟨?_, ?_⟩
    ·rintro ⟨b3, a6, c7, b9⟩ ρ σm hJ hoff hdep
     have e13 : look 58 ρ 13 = (.agg #[(I h_1.1), (I h_1.2)]) := hdep 3 rfl rfl 13 rfl
     obtain ⟨H, m⟩ := id hJ
     refine dp_ex wn (ex_buildSlice (el := n0) (xs := ([(h_1.1, h_1.2)] : List (Int × Int))) (ps := [(0, (.agg #[(I h_1.1), (I h_1.2)]))]) (cs := [(I h_1.1), (I h_1.2)]) H hn0 Try.underlying27 ti31 rfl (by show [(0, look 58 ρ 13)] = _; rw [e13]) (by kernel_rfl) (.cons (c := [(I h_1.1), (I h_1.2)]) ⟨[(I h_1.1)], [(I h_1.2)], rfl, rfl, rfl⟩ (.nil)) rfl) ?_
     rintro _ σq ⟨b9x, rfl, H2, m2⟩
     exact ⟨_, (b3, a6, c7, b9x), rfl, rfl, ⟨H2.sel' [0, 1, 2, 3] rfl rfl, m.comp0 m2⟩, stab [0, 1, 2, 3] (by kernel_rfl) ⟨rfl, rfl, rfl, rfl, trivial⟩⟩
    refine ⟨?_, ?_⟩
    ·rintro ⟨b3, a6, c7, b9⟩ ρ σm hJ hoff hdep
     have e13 : look 58 ρ 13 = (.agg #[(I h_1.1), (I h_1.2)]) := hdep 3 rfl rfl 13 rfl
     obtain ⟨H, m⟩ := id hJ
     refine dp_ex wn (ex_buildSlice (el := n0) (xs := ([(h_1.1, h_1.2)] : List (Int × Int))) (ps := [(0, (.agg #[(I h_1.1), (I h_1.2)]))]) (cs := [(I h_1.1), (I h_1.2)]) H hn0 Try.underlying27 ti31 rfl (by show [(0, look 58 ρ 13)] = _; rw [e13]) (by kernel_rfl) (.cons (c := [(I h_1.1), (I h_1.2)]) ⟨[(I h_1.1)], [(I h_1.2)], rfl, rfl, rfl⟩ (.nil)) rfl) ?_
     rintro _ σq ⟨b9x, rfl, H2, m2⟩
     exact ⟨_, (b3, a6, c7, b9x), rfl, rfl, ⟨H2.sel' [0, 1, 2, 3] rfl rfl, m.comp0 m2⟩, stab [0, 1, 2, 3] (by kernel_rfl) ⟨rfl, rfl, rfl, rfl, trivial⟩⟩
    trivial) ?_
  exact all_nil
 ·rintro ⟨b3, a6, c7, b9⟩ ρ σ10 hJ hoff hrel
  have e2 := look_off (N := 58) (hoff 2 rfl) rfl
  have e12 := hrel 2 rfl 12 rfl
  have e14 := hrel 4 rfl 14 rfl
  obtain ⟨H, -⟩ := (show Hp S0 σ0 σ10 [Ch.own n0 n0 (Sl (some ⟨b9, 0, none⟩) ([(h_1.1, h_1.2)] : List (Int × Int)) 1) ([(h_1.1, h_1.2)] : List (Int × Int)), Ch.own n0 n0 (Sl a6 xs4 c7) xs4, Ch.bx n0 b1 0 [(I h_1.1), (I h_1.2)] [] [], Ch.ro 0 (Sl alist_0 list_0 clist_0) list_0] ∧ Md (fun i => (cov []) i ∨ (fun b => blk (Sl (some ⟨b3, 0, none⟩) ([] : List (Int × Int)) 0) = some b) i) σ2 σ10 from hJ)
  clear hJ Hs
  rw [fr_lookL (L := [(2, (I k_2)), (12, (Sl a6 xs4 c7)), (14, (Sl (some ⟨b9, 0, none⟩) ([(h_1.1, h_1.2)] : List (Int × Int)) 1))]) ⟨e2, e12, e14, trivial⟩]
  clear hoff hrel e2 e12 e14
  obtain ⟨xs11, hx12, h'⟩ := bind_some h
  clear h
  have h := h'; clear h'
  refine st_ex (ex_append H (i := 1) rfl Try.underlying27 Try.underlying27 ti31 rfl rfl (by decide) (H.own 0 rfl).rd hx12 hn0 rfl rfl) wn ?_
  rintro _ σ15 ⟨a13, c14, rfl, H, -⟩
  refine st (v := (Sl a13 xs11 c14)) (rv_assign rfl) ?_
  refine w_end ?_
  refine q_then ?_
  refine c_seq ?_
  refine c_seq ?_
  refine rg ?_
  refine st (v := (Sl a13 xs11 c14)) (rv_move rfl) ?_
  refine st (v := (I (xs11.length : Int))) (rv_len Try.underlying27 rfl) ?_
  refine st (v := (I (w64 ((xs11.length : Int) - 1)))) (rv_sub (a := (xs11.length : Int)) (b := 1) rfl rfl) ?_
  refine st (v := (I (w64 ((xs11.length : Int) - 1)))) (rv_assign rfl) ?_
  refine w_end ?_
  refine q_then ?_
  obtain ⟨o16, hj, h'⟩ := bind_some h
  clear h
  refine c_cut (fun e a w => e = .normal ∧ ∃ (ρ : Nat → Value) (σ : St), a = fr 58 (updL ρ [(2, (I k_2)), (7, (Sl a13 o16 c14))]) ∧ w = σ.w ∧ Hp S0 σ0 σ [Ch.own n0 n0 (Sl a13 o16 c14) o16] ∧ o16.length = xs11.length) ?_ ?_
  ·clear h'
   rename _ = some o16 => h
   refine c_blk ?_
   refine wp_loopM _ h (fun s17 a w => ∃ (ρ : Nat → Value) (σ : St), a = fr 58 (updL ρ [(2, (I k_2)), (7, (Sl a13 s17.1 c14)), (8, (I s17.2))]) ∧ w = σ.w ∧ Hp S0 σ0 σ [Ch.own n0 n0 (Sl a13 s17.1 c14) s17.1] ∧ s17.1.length = xs11.length) ⟨_, σ15, fr_join ⟨rfl, rfl, rfl, trivial⟩, rfl, H.sel' [0] rfl rfl, rfl⟩ ?_
   clear h H
   rintro s17 a w o ⟨ρ, σ18, rfl, rfl, H, hn19⟩ h hres
   refine c_seq ?_
   refine c_seq ?_
   obtain ⟨o20, hj, h'⟩ := bind_some h
   clear h
   refine c_cut (fun e a w => e = .normal ∧ ∃ (ρ : Nat → Value) (σ : St), a = fr 58 (updL ρ [(2, (I k_2)), (7, (Sl a13 s17.1 c14)), (8, (I s17.2)), (32, (B o20))]) ∧ w = σ.w ∧ Hp S0 σ0 σ [Ch.own n0 n0 (Sl a13 s17.1 c14) s17.1]) ?_ ?_
   ·clear h'
    rename _ = some o20 => h
    refine rgP (σ := σ18) 12 (by kernel_rfl) (by kernel_rfl) (by kernel_rfl) ?_
    refine sq (v := (I s17.2)) (rv_move rfl) ?_
    refine sq (v := (B (decide (0 < s17.2)))) (rv_gtr (a := s17.2) (b := 0) rfl rfl) ?_
    refine sq (v := (B (decide (0 < s17.2)))) (rv_move rfl) ?_
    rcases Bool.eq_false_or_eq_true (decide (0 < s17.2)) with hb21 | hb21
    ·replace h := bif_t hb21 h
     refine sq_g (v := (Sl a13 s17.1 c14)) (congrArg some hb21) (rv_move rfl) ?_
     refine sq_g (v := (I s17.2)) (congrArg some hb21) (rv_move rfl) ?_
     obtain ⟨x22, hx23, h'⟩ := bind_some h
     clear h
     have h := h'; clear h'
     obtain ⟨b25, o26, hi24, -⟩ := (H.own 0 rfl).ix hx23
     refine sq_g (v := (pt b25 o26)) (congrArg some hb21) (rv_ix Try.underlying27 ti31 rfl rfl hi24) ?_
     obtain ⟨_, ⟨_, _, rfl, rfl, rfl⟩, hl27, hc28⟩ := ((H.own 0 rfl).at hx23 hi24).cells
     refine sq_g (v := (.agg #[(I x22.1), (I x22.2)])) (congrArg some hb21) (rv_load Try.underlying31 rfl ti31 rfl hl27 hc28) ?_
     refine sq_g (v := (Sl a13 s17.1 c14)) (congrArg some hb21) (rv_move rfl) ?_
     refine sq_g (v := (I s17.2)) (congrArg some hb21) (rv_move rfl) ?_
     refine sq_g (v := (I (w64 (s17.2 - 1)))) (congrArg some hb21) (rv_sub (a := s17.2) (b := 1) rfl rfl) ?_
     obtain ⟨x29, hx30, h'⟩ := bind_some h
     clear h
     have h := h'; clear h'
     obtain ⟨b32, o33, hi31, -⟩ := (H.own 0 rfl).ix hx30
     refine sq_g (v := (pt b32 o33)) (congrArg some hb21) (rv_ix Try.underlying27 ti31 rfl rfl hi31) ?_
     obtain ⟨_, ⟨_, _, rfl, rfl, rfl⟩, hl34, hc35⟩ := ((H.own 0 rfl).at hx30 hi31).cells
     refine sq_g (v := (.agg #[(I x29.1), (I x29.2)])) (congrArg some hb21) (rv_load Try.underlying31 rfl ti31 rfl hl34 hc35) ?_
     refine sq_end ?_
     intro σ36 hm37
     replace H := H.grow (hm37.mono fun _ h => h); clear hm37
     obtain ⟨r38, hx39, h'⟩ := bind_some h
     clear h
     have h := h'; clear h'
     have hc40 := c_spec_nearer hx39
     refine st_call (cx_call hc40 (ent_f hc40.fn rfl) hn0 (show Hp S0 σ0 _ ([] ++ [Ch.own n0 n0 (Sl a13 s17.1 c14) s17.1]) from (H.sel' [0] rfl rfl))) (wanted_yes rfl (by exact (congrArg some hb21))) ?_
     rintro _ σ41 ⟨_, ⟨rfl, rfl⟩, H, -⟩
     replace H : Hp S0 σ0 σ41 [Ch.own n0 n0 (Sl a13 s17.1 c14) s17.1] := H
     refine st (v := (B r38)) (rv_pick_t (congrArg B hb21) rfl) ?_
     refine w_end ?_
     obtain rfl := Option.some.inj h
     exact ⟨rfl, _, σ41, fr_join ⟨rfl, rfl, rfl, rfl, trivial⟩, rfl, H.sel' [0] rfl rfl⟩
    ·replace h := bif_f hb21 h
     refine sq_skip (congrArg some hb21) ?_
     refine sq_skip (congrArg some hb21) ?_
     refine sq_skip (congrArg some hb21) ?_
     refine sq_skip (congrArg some hb21) ?_
     refine sq_skip (congrArg some hb21) ?_
     refine sq_skip (congrArg some hb21) ?_
     refine sq_skip (congrArg some hb21) ?_
     refine sq_skip (congrArg some hb21) ?_
     refine sq_skip (congrArg some hb21) ?_
     refine sq_end ?_
     intro σ42 hm43
     replace H := H.grow (hm43.mono fun _ h => h); clear hm43
     refine st_skip (congrArg some hb21) ?_
     refine st (v := (B false)) (rv_pick_f (congrArg B hb21) rfl) ?_
     refine w_end ?_
     obtain rfl := Option.some.inj h
     exact ⟨rfl, _, σ42, fr_join ⟨rfl, rfl, rfl, rfl, trivial⟩, rfl, H.sel' [0] rfl rfl⟩
   ·clear hj
    have h := h'
    clear h' H
    rintro e a w ⟨rfl, ρ, σ44, rfl, rfl, H⟩
    refine q_then ?_
    refine cd_cond o20 rfl (fun hb45 => ?_) (fun hb45 => ?_)
    ·replace h := bif_t hb45 h
     refine c_skip ?_
     refine q_then ?_
     refine c_seq ?_
     refine c_blk ?_
     refine c_seq ?_
     refine rg ?_
     refine st (v := (Sl a13 s17.1 c14)) (rv_move rfl) ?_
     refine st (v := (I s17.2)) (rv_move rfl) ?_
     obtain ⟨x46, hx47, h'⟩ := bind_some h
     clear h
     have h := h'; clear h'
     obtain ⟨b49, o50, hi48, -⟩ := (H.own 0 rfl).ix hx47
     refine st (v := (pt b49 o50)) (rv_ix Try.underlying27 ti31 rfl rfl hi48) ?_
     obtain ⟨_, ⟨_, _, rfl, rfl, rfl⟩, hl51, hc52⟩ := ((H.own 0 rfl).at hx47 hi48).cells
     refine st (v := (.agg #[(I x46.1), (I x46.2)])) (rv_load Try.underlying31 rfl ti31 rfl hl51 hc52) ?_
     refine st_ex (ex_alloc (cs := [(I 0), (I 0)]) H hn0 ti31 rfl) wn ?_
     rintro _ σ54 ⟨b53, rfl, H, -⟩
     refine st_exS (ex_store_box (k := 0) (cs := [(I 0), (I 0)]) (vs := [(I x46.1), (I x46.2)]) (cs' := [(I x46.1), (I x46.2)]) H (i := 0) rfl ti31 rfl rfl rfl rfl rfl (Nat.le_of_ble_eq_true rfl) (by simp [plain]) rfl) wn ?_
     rintro σ55 ⟨H, -⟩
     refine w_end ?_
     refine q_then ?_
     refine c_seq ?_
     refine rg ?_
     refine st (v := (Sl a13 s17.1 c14)) (rv_move rfl) ?_
     refine st (v := (I s17.2)) (rv_move rfl) ?_
     refine st (v := (Sl a13 s17.1 c14)) (rv_move rfl) ?_
     refine st (v := (I s17.2)) (rv_move rfl) ?_
     refine st (v := (I (w64 (s17.2 - 1)))) (rv_sub (a := s17.2) (b := 1) rfl rfl) ?_
     obtain ⟨x56, hx57, h'⟩ := bind_some h
     clear h
     have h := h'; clear h'
     obtain ⟨b59, o60, hi58, -⟩ := (H.own 1 rfl).ix hx57
     refine st (v := (pt b59 o60)) (rv_ix Try.underlying27 ti31 rfl rfl hi58) ?_
     obtain ⟨_, ⟨_, _, rfl, rfl, rfl⟩, hl61, hc62⟩ := ((H.own 1 rfl).at hx57 hi58).cells
     refine st (v := (.agg #[(I x56.1), (I x56.2)])) (rv_load Try.underlying31 rfl ti31 rfl hl61 hc62) ?_
     obtain ⟨x63, hx64, h'⟩ := bind_some h
     clear h
     have h := h'; clear h'
     obtain ⟨b66, o67, hi65, -⟩ := (H.own 1 rfl).ix hx64
     refine st (v := (pt b66 o67)) (rv_ix Try.underlying27 ti31 rfl rfl hi65) ?_
     refine st_exS (ex_store_own (e' := (x56.1, x56.2)) (vs := [(I x56.1), (I x56.2)]) (k := 0) H (i := 1) rfl ti31 hx64 hi65 rfl rfl rfl rfl rfl (Nat.le_of_ble_eq_true rfl) (by simp [plain]) (by rintro _ ⟨_, _, rfl, rfl, rfl⟩; exact ⟨[(I x56.1)], [(I x56.2)], rfl, rfl, rfl⟩)) wn ?_
     rintro σ68 ⟨H, -⟩
     have hsl : (Sl a13 s17.1 c14) = (Sl a13 (s17.1.set s17.2.toNat (x56.1, x56.2)) c14) := sl_len List.length_set.symm
     rw [hsl]; rw [hsl] at H; clear hsl
     refine w_end ?_
     refine q_then ?_
     refine rg ?_
     refine st (v := (Sl a13 (s17.1.set s17.2.toNat (x56.1, x56.2)) c14)) (rv_move rfl) ?_
     refine st (v := (I s17.2)) (rv_move rfl) ?_
     refine st (v := (I (w64 (s17.2 - 1)))) (rv_sub (a := s17.2) (b := 1) rfl rfl) ?_
     have hc69 := H.cells 1 rfl
     refine st (v := (.agg #[(I x46.1), (I x46.2)])) (rv_load (cs := [(I x46.1), (I x46.2)]) Try.underlying31 rfl ti31 rfl rfl hc69) ?_
     obtain ⟨x70, hx71, h'⟩ := bind_some h
     clear h
     have h := h'; clear h'
     obtain ⟨b73, o74, hi72, -⟩ := (H.own 0 rfl).ix hx71
     refine st (v := (pt b73 o74)) (rv_ix Try.underlying27 ti31 rfl rfl hi72) ?_
     refine st_exS (ex_store_own (e' := (x46.1, x46.2)) (vs := [(I x46.1), (I x46.2)]) (k := 0) H (i := 0) rfl ti31 hx71 hi72 rfl rfl rfl rfl rfl (Nat.le_of_ble_eq_true rfl) (by simp [plain]) (by rintro _ ⟨_, _, rfl, rfl, rfl⟩; exact ⟨[(I x46.1)], [(I x46.2)], rfl, rfl, rfl⟩)) wn ?_
     rintro σ75 ⟨H, -⟩
     have hsl : (Sl a13 (s17.1.set s17.2.toNat (x56.1, x56.2)) c14) = (Sl a13 ((s17.1.set s17.2.toNat (x56.1, x56.2)).set (w64 (s17.2 - 1)).toNat (x46.1, x46.2)) c14) := sl_len List.length_set.symm
     rw [hsl]; rw [hsl] at H; clear hsl
     refine w_end ?_
     refine q_blk ?_
     refine q_then ?_
     refine rg ?_
     refine st (v := (I s17.2)) (rv_move rfl) ?_
     refine st (v := (I (w64 (s17.2 - 1)))) (rv_sub (a := s17.2) (b := 1) rfl rfl) ?_
     refine st (v := (I (w64 (s17.2 - 1)))) (rv_assign rfl) ?_
     refine w_end ?_
     refine q_then ?_
     obtain rfl := Option.some.inj h
     exact ⟨_, rfl, _, σ75, fr_join ⟨rfl, rfl, rfl, trivial⟩, rfl, H.sel' [0] rfl rfl, (List.length_set.trans (List.length_set.trans hn19))⟩
    ·replace h := bif_f hb45 h
     refine c_exit ?_
     refine q_then_x ?_
     refine q_then_x ?_
     refine q_blk_hit ?_
     obtain rfl := Option.some.inj h
     obtain rfl := hres _ rfl
     exact ⟨rfl, _, σ44, fr_join ⟨rfl, rfl, trivial⟩, rfl, H.sel' [0] rfl rfl, hn19⟩
  ·clear hj
   have h := h'
   clear h' H
   rintro e a w ⟨rfl, ρ, σ76, rfl, rfl, H, hn77⟩
   refine q_then ?_
   refine c_seq ?_
   refine rg ?_
   refine st (v := (Sl a13 o16 c14)) (rv_move rfl) ?_
   refine st (v := (I k_2)) (rv_move rfl) ?_
   refine st (v := (Sl a13 o16 c14)) (rv_move rfl) ?_
   refine st (v := (I (o16.length : Int))) (rv_len Try.underlying27 rfl) ?_
   refine st (v := (I (min k_2 (o16.length : Int)))) (rv_min rfl rfl) ?_
   obtain ⟨xs78, hx79, h'⟩ := bind_some h
   clear h
   have h := h'; clear h'
   obtain ⟨a80, c81, hs82, hR83, hb84⟩ := (H.own 0 rfl).slice hx79
   replace H := (H.front (i := 0) rfl).turn (d := Ch.own n0 n0 (Sl a80 xs78 c81) xs78) (fun _ => hR83) hb84; clear hR83 hb84
   refine st (v := (Sl a80 xs78 c81)) (rv_slice_h Try.underlying27 ti31 hs82 rfl rfl) ?_
   refine st (v := (Sl a80 xs78 c81)) (rv_assign rfl) ?_
   refine w_end ?_
   refine q_then ?_
   refine c_ret ?_
   obtain rfl := Option.some.inj h
   exact fin_ret (v := (Sl a80 xs78 c81)) (results_ok Try.results53 (res_tmp (v := (Sl a80 xs78 c81)) rfl res_nil) rfl) ⟨a80, c81, rfl, rfl⟩ (H.sel' [0] rfl rfl)

theorem c_spec_size {n_0 : Int}  {r : Int} (h : M.spec_size n_0 = some r) :
    Cal2 Try.prog 93 [(I n_0)] [] (fun n0 v L => v = (I r) ∧ L = []) := by
 refine cal2 (n := 7) Try.func93 rfl rfl rfl rfl ?_
 intro S0 σ0 n0 hn0 H
 unfold M.spec_size at h
 refine c_seq ?_
 refine rg ?_
 refine st (v := (I 0)) (rv_assign rfl) ?_
 refine w_end ?_
 refine q_then ?_
 refine c_seq ?_
 refine rg ?_
 refine st (v := (I n_0)) (rv_move rfl) ?_
 refine st (v := (I n_0)) (rv_move rfl) ?_
 refine st (v := (I (w64 (0 - n_0)))) (rv_neg (a := n_0) rfl) ?_
 refine st (v := (I (max n_0 (w64 (0 - n_0))))) (rv_max rfl rfl) ?_
 refine st (v := (I (max n_0 (w64 (0 - n_0))))) (rv_assign rfl) ?_
 refine w_end ?_
 refine q_then ?_
 refine c_ret ?_
 obtain rfl := Option.some.inj h
 exact fin_ret (v := (I (max n_0 (w64 (0 - n_0))))) (results_ok Try.results93 (res_tmp (v := (I (max n_0 (w64 (0 - n_0))))) rfl res_nil) rfl) ⟨rfl, rfl⟩ (H.sel' [] rfl rfl)

theorem c_spec_toInt {b_0 : Bool}  {r : Int} (h : M.spec_toInt b_0 = some r) :
    Cal2 Try.prog 94 [(B b_0)] [] (fun n0 v L => v = (I r) ∧ L = []) := by
 refine cal2 (n := 4) Try.func94 rfl rfl rfl rfl ?_
 intro S0 σ0 n0 hn0 H
 unfold M.spec_toInt at h
 refine c_seq ?_
 refine rg ?_
 refine st (v := (I 0)) (rv_assign rfl) ?_
 refine w_end ?_
 refine q_then ?_
 refine c_seq ?_
 refine c_seq ?_
 refine rg ?_
 refine st (v := (B b_0)) (rv_move rfl) ?_
 refine w_end ?_
 refine q_then ?_
 refine cd_cond b_0 rfl (fun hb1 => ?_) (fun hb1 => ?_)
 ·replace h := bif_t hb1 h
  refine c_seq ?_
  refine rg ?_
  refine st (v := (I 1)) (rv_assign rfl) ?_
  refine w_end ?_
  refine q_then ?_
  refine c_ret ?_
  refine q_then_r ?_
  obtain rfl := Option.some.inj h
  exact fin_ret (v := (I 1)) (results_ok Try.results94 (res_tmp (v := (I 1)) rfl res_nil) rfl) ⟨rfl, rfl⟩ (H.sel' [] rfl rfl)
 ·replace h := bif_f hb1 h
  refine c_skip ?_
  refine q_then ?_
  refine c_seq ?_
  refine rg ?_
  refine st (v := (I 0)) (rv_assign rfl) ?_
  refine w_end ?_
  refine q_then ?_
  refine c_ret ?_
  obtain rfl := Option.some.inj h
  exact fin_ret (v := (I 0)) (results_ok Try.results94 (res_tmp (v := (I 0)) rfl res_nil) rfl) ⟨rfl, rfl⟩ (H.sel' [] rfl rfl)

theorem c_spec_dist {kind_0 : Int} {a_1 : List Int} {b_2 : List Int} {aa_1 : Option Addr} {ca_1 : Nat} {ab_2 : Option Addr} {cb_2 : Nat} {r : Int} (h : M.spec_dist kind_0 a_1 b_2 = some r) :
    Cal2 Try.prog 73 [(I kind_0), (Sl aa_1 a_1 ca_1), (Sl ab_2 b_2 cb_2)] [Ch.ro 0 (Sl aa_1 a_1 ca_1) a_1, Ch.ro 0 (Sl ab_2 b_2 cb_2) b_2] (fun n0 v L => v = (I r) ∧ L = []) := by
 refine cal2 (n := 50) Try.func73 rfl rfl rfl rfl ?_
 intro S0 σ0 n0 hn0 H
 unfold M.spec_dist at h
 refine c_seq ?_
 refine rg ?_
 refine st (v := (I 0)) (rv_assign rfl) ?_
 refine w_end ?_
 refine q_then ?_
 refine c_seq ?_
 refine rg ?_
 refine st (v := (I 0)) (rv_assign rfl) ?_
 refine w_end ?_
 refine q_then ?_
 refine c_seq ?_
 refine c_seq ?_
 refine rg ?_
 refine st (v := (I 0)) (rv_assign rfl) ?_
 refine w_end ?_
 refine q_then ?_
 obtain ⟨o1, hj, h'⟩ := bind_some h
 clear h
 refine c_cut (fun e a w => e = .normal ∧ ∃ (ρ : Nat → Value) (σ : St), a = fr 50 (updL ρ [(7, (I o1))]) ∧ w = σ.w ∧ Hp S0 σ0 σ []) ?_ ?_
 ·clear h'
  rename _ = some o1 => h
  refine c_blk ?_
  refine wp_loopM _ h (fun s2 a w => ∃ (ρ : Nat → Value) (σ : St), a = fr 50 (updL ρ [(0, (I kind_0)), (1, (Sl aa_1 a_1 ca_1)), (2, (Sl ab_2 b_2 cb_2)), (7, (I s2.1)), (8, (I s2.2))]) ∧ w = σ.w ∧ Hp S0 σ0 σ [Ch.ro 0 (Sl aa_1 a_1 ca_1) a_1, Ch.ro 0 (Sl ab_2 b_2 cb_2) b_2]) ⟨_, σ0, fr_join ⟨rfl, rfl, rfl, rfl, rfl, trivial⟩, rfl, H.sel' [0, 1] rfl rfl⟩ ?_
  clear h H
  rintro s2 a w o ⟨ρ, σ3, rfl, rfl, H⟩ h hres
  refine c_seq ?_
  refine c_seq ?_
  refine rg ?_
  refine st (v := (I s2.2)) (rv_move rfl) ?_
  refine st (v := (Sl aa_1 a_1 ca_1)) (rv_move rfl) ?_
  refine st (v := (I (a_1.length : Int))) (rv_len Try.underlying24 rfl) ?_
  refine st (v := (B (decide (s2.2 < (a_1.length : Int))))) (rv_lss (a := s2.2) (b := (a_1.length : Int)) rfl rfl) ?_
  refine w_end ?_
  refine q_then ?_
  refine cd_cond (decide (s2.2 < (a_1.length : Int))) rfl (fun hb4 => ?_) (fun hb4 => ?_)
  ·replace h := bif_t hb4 h
   refine c_skip ?_
   refine q_then ?_
   refine c_seq ?_
   obtain ⟨o5, hj, h'⟩ := bind_some h
   clear h
   refine c_cut (fun e a w => e = .normal ∧ ∃ (ρ : Nat → Value) (σ : St), a = fr 50 (updL ρ [(0, (I kind_0)), (1, (Sl aa_1 a_1 ca_1)), (2, (Sl ab_2 b_2 cb_2)), (7, (I o5)), (8, (I s2.2))]) ∧ w = σ.w ∧ Hp S0 σ0 σ [Ch.ro 0 (Sl aa_1 a_1 ca_1) a_1, Ch.ro 0 (Sl ab_2 b_2 cb_2) b_2]) ?_ ?_
   ·clear h'
    rename _ = some o5 => h
    refine c_blk ?_
    refine c_seq ?_
    refine rgP (σ := σ3) 8 (by kernel_rfl) (by kernel_rfl) (by kernel_rfl) ?_
    refine sq (v := (Sl aa_1 a_1 ca_1)) (rv_move rfl) ?_
    refine sq (v := (I s2.2)) (rv_move rfl) ?_
    obtain ⟨x6, hx7, h'⟩ := bind_some h
    clear h
    have h := h'; clear h'
    obtain ⟨b9, o10, hi8, -⟩ := (H.ro 0 rfl).ix hx7
    refine sq (v := (pt b9 o10)) (rv_ix Try.underlying24 ti3 rfl rfl hi8) ?_
    have hc11 := ((H.ro 0 rfl).at hx7 hi8).int
    refine sq (v := (I x6)) (rv_load1 Try.underlying3 rfl rfl hc11) ?_
    refine sq (v := (Sl ab_2 b_2 cb_2)) (rv_move rfl) ?_
    refine sq (v := (I s2.2)) (rv_move rfl) ?_
    obtain ⟨x12, hx13, h'⟩ := bind_some h
    clear h
    have h := h'; clear h'
    obtain ⟨b15, o16, hi14, -⟩ := (H.ro 1 rfl).ix hx13
    refine sq (v := (pt b15 o16)) (rv_ix Try.underlying24 ti3 rfl rfl hi14) ?_
    have hc17 := ((H.ro 1 rfl).at hx13 hi14).int
    refine sq (v := (I x12)) (rv_load1 Try.underlying3 rfl rfl hc17) ?_
    refine sq_end ?_
    intro σ18 hm19
    replace H := H.grow (hm19.mono fun _ h => h); clear hm19
    refine st (v := (I (w64 (x6 - x12)))) (rv_sub (a := x6) (b := x12) rfl rfl) ?_
    obtain ⟨r20, hx21, h'⟩ := bind_some h
    clear h
    have h := h'; clear h'
    have hc22 := c_spec_size hx21
    refine st_call (cx_call hc22 (ent_f hc22.fn rfl) hn0 (show Hp S0 σ0 _ ([] ++ [Ch.ro 0 (Sl aa_1 a_1 ca_1) a_1, Ch.ro 0 (Sl ab_2 b_2 cb_2) b_2]) from (H.sel' [0, 1] rfl rfl))) wn ?_
    rintro _ σ23 ⟨_, ⟨rfl, rfl⟩, H, -⟩
    replace H : Hp S0 σ0 σ23 [Ch.ro 0 (Sl aa_1 a_1 ca_1) a_1, Ch.ro 0 (Sl ab_2 b_2 cb_2) b_2] := H
    refine st (v := (I r20)) (rv_assign rfl) ?_
    refine w_end ?_
    refine q_then ?_
    refine c_seq ?_
    refine rg ?_
    refine st (v := (I kind_0)) (rv_move rfl) ?_
    refine w_end ?_
    refine q_then ?_
    refine c_blk ?_
    refine c_seq ?_
    refine rg ?_
    refine st (v := (B (kind_0 == 1))) (rv_eql (a := kind_0) (b := 1) rfl rfl) ?_
    refine st (v := (B (kind_0 == 1))) (rv_assign rfl) ?_
    refine w_end ?_
    refine q_then ?_
    refine cd_cond (kind_0 == 1) rfl (fun hb24 => ?_) (fun hb24 => ?_)
    ·replace h := bif_t hb24 h
     refine rg ?_
     refine st (v := (I s2.1)) (rv_move rfl) ?_
     refine st (v := (I r20)) (rv_move rfl) ?_
     refine st (v := (I (w64 (s2.1 + r20)))) (rv_add (a := s2.1) (b := r20) rfl rfl) ?_
     refine st (v := (I (w64 (s2.1 + r20)))) (rv_assign rfl) ?_
     refine w_end ?_
     refine q_blk ?_
     refine q_blk ?_
     obtain rfl := Option.some.inj h
     exact ⟨rfl, _, σ23, fr_join ⟨rfl, rfl, rfl, rfl, rfl, trivial⟩, rfl, H.sel' [0, 1] rfl rfl⟩
    ·replace h := bif_f hb24 h
     refine c_seq ?_
     refine rg ?_
     refine st (v := (B (kind_0 == 2))) (rv_eql (a := kind_0) (b := 2) rfl rfl) ?_
     refine st (v := (B (kind_0 == 2))) (rv_assign rfl) ?_
     refine w_end ?_
     refine q_then ?_
     refine cd_cond (kind_0 == 2) rfl (fun hb25 => ?_) (fun hb25 => ?_)
     ·replace h := bif_t hb25 h
      refine rg ?_
      refine st (v := (I s2.1)) (rv_move rfl) ?_
      refine st (v := (I r20)) (rv_move rfl) ?_
      refine st (v := (I (max s2.1 r20))) (rv_max rfl rfl) ?_
      refine st (v := (I (max s2.1 r20))) (rv_assign rfl) ?_
      refine w_end ?_
      refine q_blk ?_
      refine q_blk ?_
      obtain rfl := Option.some.inj h
      exact ⟨rfl, _, σ23, fr_join ⟨rfl, rfl, rfl, rfl, rfl, trivial⟩, rfl, H.sel' [0, 1] rfl rfl⟩
     ·replace h := bif_f hb25 h
      refine c_seq ?_
      refine rg ?_
      refine st (v := (B (kind_0 == 3))) (rv_eql (a := kind_0) (b := 3) rfl rfl) ?_
      refine st (v := (B (kind_0 == 3))) (rv_assign rfl) ?_
      refine w_end ?_
      refine q_then ?_
      refine cd_cond (kind_0 == 3) rfl (fun hb26 => ?_) (fun hb26 => ?_)
      ·replace h := bif_t hb26 h
       refine rg ?_
       refine st (v := (I s2.1)) (rv_move rfl) ?_
       refine st (v := (I r20)) (rv_move rfl) ?_
       refine st (v := (I r20)) (rv_move rfl) ?_
       refine st (v := (I (w64 (r20 * r20)))) (rv_mul (a := r20) (b := r20) rfl rfl) ?_
       refine st (v := (I (w64 (s2.1 + (w64 (r20 * r20)))))) (rv_add (a := s2.1) (b := (w64 (r20 * r20))) rfl rfl) ?_
       refine st (v := (I (w64 (s2.1 + (w64 (r20 * r20)))))) (rv_assign rfl) ?_
       refine w_end ?_
       refine q_blk ?_
       refine q_blk ?_
       obtain rfl := Option.some.inj h
       exact ⟨rfl, _, σ23, fr_join ⟨rfl, rfl, rfl, rfl, rfl, trivial⟩, rfl, H.sel' [0, 1] rfl rfl⟩
      ·replace h := bif_f hb26 h
       refine rg ?_
       refine st (v := (I s2.1)) (rv_move rfl) ?_
       refine st (v := (I r20)) (rv_move rfl) ?_
       refine st (v := (B (decide (0 < r20)))) (rv_gtr (a := r20) (b := 0) rfl rfl) ?_
       obtain ⟨r27, hx28, h'⟩ := bind_some h
       clear h
       have h := h'; clear h'
       have hc29 := c_spec_toInt hx28
       refine st_call (cx_call hc29 (ent_f hc29.fn rfl) hn0 (show Hp S0 σ0 _ ([] ++ [Ch.ro 0 (Sl aa_1 a_1 ca_1) a_1, Ch.ro 0 (Sl ab_2 b_2 cb_2) b_2]) from (H.sel' [0, 1] rfl rfl))) wn ?_
       rintro _ σ30 ⟨_, ⟨rfl, rfl⟩, H, -⟩
       replace H : Hp S0 σ0 σ30 [Ch.ro 0 (Sl aa_1 a_1 ca_1) a_1, Ch.ro 0 (Sl ab_2 b_2 cb_2) b_2] := H
       refine st (v := (I (w64 (s2.1 + r27)))) (rv_add (a := s2.1) (b := r27) rfl rfl) ?_
       refine st (v := (I (w64 (s2.1 + r27)))) (rv_assign rfl) ?_
       refine w_end ?_
       refine q_blk ?_
       refine q_blk ?_
       obtain rfl := Option.some.inj h
       exact ⟨rfl, _, σ30, fr_join ⟨rfl, rfl, rfl, rfl, rfl, trivial⟩, rfl, H.sel' [0, 1] rfl rfl⟩
   ·clear hj
    have h := h'
    clear h' H
    rintro e a w ⟨rfl, ρ, σ31, rfl, rfl, H⟩
    refine q_then ?_
    refine rg ?_
    refine st (v := (I s2.2)) (rv_move rfl) ?_
    refine st (v := (I (w64 (s2.2 + 1)))) (rv_add (a := s2.2) (b := 1) rfl rfl) ?_
    refine st (v := (I (w64 (s2.2 + 1)))) (rv_assign rfl) ?_
    refine w_end ?_
    refine q_then ?_
    obtain rfl := Option.some.inj h
    exact ⟨_, rfl, _, σ31, fr_join ⟨rfl, rfl, rfl, rfl, rfl, trivial⟩, rfl, H.sel' [0, 1] rfl rfl⟩
  ·replace h := bif_f hb4 h
   refine c_exit ?_
   refine q_then_x ?_
   refine q_then_x ?_
   refine q_blk_hit ?_
   obtain rfl := Option.some.inj h
   obtain rfl := hres _ rfl
   exact ⟨rfl, _, σ3, fr_join ⟨rfl, trivial⟩, rfl, H.sel' [] rfl rfl⟩
 ·clear hj
  have h := h'
  clear h' H
  rintro e a w ⟨rfl, ρ, σ32, rfl, rfl, H⟩
  refine q_then ?_
  refine c_seq ?_
  refine rg ?_
  refine st (v := (I o1)) (rv_move rfl) ?_
  refine st (v := (I o1)) (rv_assign rfl) ?_
  refine w_end ?_
  refine q_then ?_
  refine c_ret ?_
  obtain rfl := Option.some.inj h
  exact fin_ret (v := (I o1)) (results_ok Try.results73 (res_tmp (v := (I o1)) rfl res_nil) rfl) ⟨rfl, rfl⟩ (H.sel' [] rfl rfl)

theorem c_spec_nearest {list_0 : List (Int × (List Int) × Int)} {kind_1 : Int} {at_2 : List Int} {k_3 : Int} {alist_0 : Option Addr} {clist_0 : Nat} {aat_2 : Option Addr} {cat_2 : Nat} {r : (List (Int × Int))} (h : M.spec_nearest list_0 kind_1 at_2 k_3 = some r) :
    Cal2 Try.prog 41 [(Sl alist_0 list_0 clist_0), (I kind_1), (Sl aat_2 at_2 cat_2), (I k_3)] [Ch.ro 0 (Sl alist_0 list_0 clist_0) list_0, Ch.ro 0 (Sl aat_2 at_2 cat_2) at_2] (fun n0 v L => ∃ (az1 : Option Addr), ∃ (cz2 : Nat), v = (Sl az1 r cz2) ∧ L = [Ch.own n0 n0 (Sl az1 r cz2) r]) := by
 refine cal2 (n := 36) Try.func41 rfl rfl rfl rfl ?_
 intro S0 σ0 n0 hn0 H
 unfold M.spec_nearest at h
 refine c_seq ?_
 refine rg ?_
 refine st (v := (.slice none 0 0)) (rv_assign rfl) ?_
 refine w_end ?_
 refine q_then ?_
 refine c_seq ?_
 refine rg ?_
 refine st_ex (ex_buildSlice (el := n0) (xs := ([] : List (Int × Int))) (ps := []) (cs := []) H hn0 Try.underlying27 ti31 rfl rfl (by kernel_rfl) (.nil) rfl) wn ?_
 rintro _ σ2 ⟨b1, rfl, H, -⟩
 refine st (v := (Sl (some ⟨b1, 0, none⟩) ([] : List (Int × Int)) 0)) (rv_assign rfl) ?_
 refine w_end ?_
 refine q_then ?_
 refine c_seq ?_
 refine c_seq ?_
 refine rg ?_
 refine st (v := (I 0)) (rv_assign rfl) ?_
 refine w_end ?_
 refine q_then ?_
 obtain ⟨o3, hj, h'⟩ := bind_some h
 clear h
 refine c_cut (fun e a w => e = .normal ∧ ∃ (ρ : Nat → Value) (σ : St) (aj1 : Option Addr) (cj2 : Nat), a = fr 36 (updL ρ [(9, (Sl aj1 o3 cj2))]) ∧ w = σ.w ∧ Hp S0 σ0 σ [Ch.own n0 n0 (Sl aj1 o3 cj2) o3]) ?_ ?_
 ·clear h'
  rename _ = some o3 => h
  refine c_blk ?_
  refine wp_loopM _ h (fun s4 a w => ∃ (ρ : Nat → Value) (σ : St) (aj1 : Option Addr) (cj2 : Nat), a = fr 36 (updL ρ [(0, (Sl alist_0 list_0 clist_0)), (1, (I kind_1)), (2, (Sl aat_2 at_2 cat_2)), (3, (I k_3)), (9, (Sl aj1 s4.1 cj2)), (10, (I s4.2))]) ∧ w = σ.w ∧ Hp S0 σ0 σ [Ch.ro 0 (Sl alist_0 list_0 clist_0) list_0, Ch.ro 0 (Sl aat_2 at_2 cat_2) at_2, Ch.own n0 n0 (Sl aj1 s4.1 cj2) s4.1]) ⟨_, σ2, (some ⟨b1, 0, none⟩), 0, fr_join ⟨rfl, rfl, rfl, rfl, rfl, rfl, trivial⟩, rfl, H.sel' [1, 2, 0] rfl rfl⟩ ?_
  clear h H
  rintro s4 a w o ⟨ρ, σ5, a6, c7, rfl, rfl, H⟩ h hres
  refine c_seq ?_
  refine c_seq ?_
  refine rg ?_
  refine st (v := (I s4.2)) (rv_move rfl) ?_
  refine st (v := (Sl alist_0 list_0 clist_0)) (rv_move rfl) ?_
  refine st (v := (I (list_0.length : Int))) (rv_len Try.underlying23 rfl) ?_
  refine st (v := (B (decide (s4.2 < (list_0.length : Int))))) (rv_lss (a := s4.2) (b := (list_0.length : Int)) rfl rfl) ?_
  refine w_end ?_
  refine q_then ?_
  refine cd_cond (decide (s4.2 < (list_0.length : Int))) rfl (fun hb8 => ?_) (fun hb8 => ?_)
  ·replace h := bif_t hb8 h
   refine c_skip ?_
   refine q_then ?_
   refine c_seq ?_
   refine c_blk ?_
   obtain ⟨x9, hx10, h'⟩ := bind_some h
   clear h
   have h := h'; clear h'
   obtain ⟨b12, o13, hi11, -⟩ := (H.ro 0 rfl).ix hx10
   have hc14 := ((H.ro 0 rfl).at hx10 hi11).fst.int
   obtain ⟨x15, hx16, h'⟩ := bind_some h
   clear h
   have h := h'; clear h'
   obtain ⟨b18, o19, hi17, -⟩ := (H.ro 0 rfl).ix hx16
   obtain ⟨v23, hc24, hR22⟩ := ((H.ro 0 rfl).at hx16 hi17).snd.fst.slice
   obtain ⟨a20, c21, rfl⟩ := hR22.isSl
   replace H := H.add (d := Ch.ro 0 (Sl a20 x15.2.1 c21) x15.2.1) hR22 (fun _ h => h)
   clear hR22
   obtain ⟨r25, hx26, h'⟩ := bind_some h
   clear h
   have h := h'; clear h'
   have hc27 := c_spec_dist (aa_1 := a20) (ca_1 := c21) (ab_2 := aat_2) (cb_2 := cat_2) hx26
   have Hs := H
   refine rg2 (σ := σ5) (Nm := Unit) 16 [13] [[false], [true]] [[(0, 0), (1, 1)], [(0, 0), (1, 1)], [(0, 0), (1, 1)], [(0, 0), (1, 1)], [(0, 0), (1, 1)], [(0, 0), (1, 1)], [(0, 0)], [(0, 0)], [(0, 0)], [(0, 0)], [(0, 0)], [(0, 0)], [(0, 0)], [(0, 1)], [(1, 1)], [(0, 0), (1, 1)]] 1 [fun _ => fun σm => Hp S0 σ0 σm [Ch.ro 0 (Sl a20 x15.2.1 c21) x15.2.1, Ch.ro 0 (Sl alist_0 list_0 clist_0) list_0, Ch.ro 0 (Sl aat_2 at_2 cat_2) at_2, Ch.own n0 n0 (Sl a6 s4.1 c7) s4.1] ∧ Md (cov []) σ5 σm, fun _ => fun σm => Hp S0 σ0 σm [Ch.ro 0 (Sl a20 x15.2.1 c21) x15.2.1, Ch.ro 0 (Sl alist_0 list_0 clist_0) list_0, Ch.ro 0 (Sl aat_2 at_2 cat_2) at_2, Ch.own n0 n0 (Sl a6 s4.1 c7) s4.1] ∧ Md (cov []) σ5 σm] [fun _ => (Sl a6 s4.1 c7), fun _ => (Sl alist_0 list_0 clist_0), fun _ => (I s4.2), fun _ => (pt b12 o13), fun _ => (pt b12 (o13 + 0)), fun _ => (I x9.1), fun _ => (I kind_1), fun _ => (Sl alist_0 list_0 clist_0), fun _ => (I s4.2), fun _ => (pt b18 o19), fun _ => (pt b18 (o19 + 1)), fun _ => (Sl a20 x15.2.1 c21), fun _ => (Sl aat_2 at_2 cat_2), fun _ => (I r25), fun _ => (.agg #[(I x9.1), (I r25)]), fun _ => (I k_3)] () (by kernel_rfl) (by kernel_rfl) ?_ ?_ ?_
   ·intro σm m0
    exact ⟨H.grow (m0.mono fun _ h => h.elim), m0⟩
   ·refine ac rfl (by
      intro k _nm ρ σm hJ hoff hdep
      have e9 := look_off (N := 36) (hoff 9 rfl) rfl
      exact dp_v (v := (Sl a6 s4.1 c7)) wn (rv_move e9) rfl hJ) ?_
    refine ac rfl (by
      intro k _nm ρ σm hJ hoff hdep
      have e0 := look_off (N := 36) (hoff 0 rfl) rfl
      exact dp_v (v := (Sl alist_0 list_0 clist_0)) wn (rv_move e0) rfl hJ) ?_
    refine ac rfl (by
      intro k _nm ρ σm hJ hoff hdep
      have e10 := look_off (N := 36) (hoff 10 rfl) rfl
      exact dp_v (v := (I s4.2)) wn (rv_move e10) rfl hJ) ?_
    refine ac rfl (by
      intro k _nm ρ σm hJ hoff hdep
      have e19 := hdep 1 rfl rfl 19 rfl
      have e20 := hdep 2 rfl rfl 20 rfl
      exact dp_v (v := (pt b12 o13)) wn (rv_ix Try.underlying23 ti34 e19 e20 hi11) rfl hJ) ?_
    refine ac rfl (by
      intro k _nm ρ σm hJ hoff hdep
      have e21 := hdep 3 rfl rfl 21 rfl
      exact dp_v (v := (pt b12 (o13 + 0))) wn (rv_fieldAddr (off := 0) (ft := 3) Try.underlying34 rfl ti3 rfl e21) rfl hJ) ?_
    refine all_cons (by
      refine ⟨?_, ?_⟩
      ·intro _nm ρ σm hJ hoff hdep
       have e22 := hdep 4 rfl rfl 22 rfl
       obtain ⟨H, m⟩ := id hJ
       replace hc14 := (Hs.ro 1 rfl).hmd hx10 hi11 (k := 0) (by decide) hc14 m
       exact dp_v (v := (I x9.1)) wn (rv_load1 Try.underlying3 rfl e22 hc14) rfl hJ
      refine ⟨?_, ?_⟩
      ·intro _nm ρ σm hJ hoff hdep
       have e22 := hdep 4 rfl rfl 22 rfl
       obtain ⟨H, m⟩ := id hJ
       replace hc14 := (Hs.ro 1 rfl).hmd hx10 hi11 (k := 0) (by decide) hc14 m
       exact dp_v (v := (I x9.1)) wn (rv_load1 Try.underlying3 rfl e22 hc14) rfl hJ
      trivial) ?_
    refine ac rfl (by
      intro k _nm ρ σm hJ hoff hdep
      have e1 := look_off (N := 36) (hoff 1 rfl) rfl
      exact dp_v (v := (I kind_1)) wn (rv_move e1) rfl hJ) ?_
    refine ac rfl (by
      intro k _nm ρ σm hJ hoff hdep
      have e0 := look_off (N := 36) (hoff 0 rfl) rfl
      exact dp_v (v := (Sl alist_0 list_0 clist_0)) wn (rv_move e0) rfl hJ) ?_
    refine ac rfl (by
      intro k _nm ρ σm hJ hoff hdep
      have e10 := look_off (N := 36) (hoff 10 rfl) rfl
      exact dp_v (v := (I s4.2)) wn (rv_move e10) rfl hJ) ?_
    refine ac rfl (by
      intro k _nm ρ σm hJ hoff hdep
      have e25 := hdep 7 rfl rfl 25 rfl
      have e26 := hdep 8 rfl rfl 26 rfl
      exact dp_v (v := (pt b18 o19)) wn (rv_ix Try.underlying23 ti34 e25 e26 hi17) rfl hJ) ?_
    refine ac rfl (by
      intro k _nm ρ σm hJ hoff hdep
      have e27 := hdep 9 rfl rfl 27 rfl
      exact dp_v (v := (pt b18 (o19 + 1))) wn (rv_fieldAddr (off := 1) (ft := 24) Try.underlying34 rfl ti24 rfl e27) rfl hJ) ?_
    refine all_cons (by
      refine ⟨?_, ?_⟩
      ·intro _nm ρ σm hJ hoff hdep
       have e28 := hdep 10 rfl rfl 28 rfl
       obtain ⟨H, m⟩ := id hJ
       replace hc24 := (Hs.ro 1 rfl).hmd hx16 hi17 (k := 1) (by decide) hc24 m
       exact dp_v (v := (Sl a20 x15.2.1 c21)) wn (rv_load1 Try.underlying24 rfl e28 hc24) rfl hJ
      trivial) ?_
    refine ac rfl (by
      intro k _nm ρ σm hJ hoff hdep
      have e2 := look_off (N := 36) (hoff 2 rfl) rfl
      exact dp_v (v := (Sl aat_2 at_2 cat_2)) wn (rv_move e2) rfl hJ) ?_
    refine all_cons (by
      refine ⟨?_, ?_⟩
      ·intro _nm ρ σm hJ hoff hdep
       have e24 : look 36 ρ 24 = (I kind_1) := hdep 6 rfl rfl 24 rfl
       have e29 : look 36 ρ 29 = (Sl a20 x15.2.1 c21) := hdep 11 rfl rfl 29 rfl
       have e30 : look 36 ρ 30 = (Sl aat_2 at_2 cat_2) := hdep 12 rfl rfl 30 rfl
       obtain ⟨H, m⟩ := id hJ
       refine dp_cx wn (cx_call hc27 (ent_f hc27.fn (by show [look 36 ρ 24, look 36 ρ 29, look 36 ρ 30] = _; rw [e24, e29, e30])) hn0 (show Hp S0 σ0 _ ([Ch.ro 0 (Sl a20 x15.2.1 c21) x15.2.1, Ch.ro 0 (Sl aat_2 at_2 cat_2) at_2] ++ [Ch.ro 0 (Sl a20 x15.2.1 c21) x15.2.1, Ch.ro 0 (Sl alist_0 list_0 clist_0) list_0, Ch.ro 0 (Sl aat_2 at_2 cat_2) at_2, Ch.own n0 n0 (Sl a6 s4.1 c7) s4.1]) from (H.sel' [0, 2, 0, 1, 2, 3] rfl rfl))) ?_
       rintro _ σq ⟨_, ⟨rfl, rfl⟩, H2, m2⟩
       exact ⟨_, (), rfl, rfl, ⟨H2.sel' [0, 1, 2, 3] rfl rfl, m.comp0 (m2.mono (fun i h => by simp [cov, Ch.ro] at h))⟩, stab [0, 1, 2, 3, 4, 5, 6, 7, 8, 9, 10, 11, 12, 15] (by kernel_rfl) ⟨rfl, rfl, rfl, rfl, rfl, rfl, rfl, rfl, rfl, rfl, rfl, rfl, rfl, rfl, trivial⟩⟩
      trivial) ?_
    refine ac rfl (by
      intro k _nm ρ σm hJ hoff hdep
      have e23 : look 36 ρ 23 = (I x9.1) := hdep 5 rfl rfl 23 rfl
      have e31 : look 36 ρ 31 = (I r25) := hdep 13 rfl rfl 31 rfl
      exact dp_v (v := (.agg #[(I x9.1), (I r25)])) wn (rv_build (ps := [(0, (I x9.1)), (1, (I r25))]) Try.underlying31 ti31 (bp31 Try.underlying31) (by show [(0, look 36 ρ 23), (1, look 36 ρ 31)] = _; rw [e23, e31]) (by kernel_rfl)) rfl hJ) ?_
    refine ac rfl (by
      intro k _nm ρ σm hJ hoff hdep
      have e3 := look_off (N := 36) (hoff 3 rfl) rfl
      exact dp_v (v := (I k_3)) wn (rv_move e3) rfl hJ) ?_
    exact all_nil
   ·intro _nm ρ σ28 hJ hoff hrel
    have e0 := look_off (N := 36) (hoff 0 rfl) rfl
    have e1 := look_off (N := 36) (hoff 1 rfl) rfl
    have e2 := look_off (N := 36) (hoff 2 rfl) rfl
    have e3 := look_off (N := 36) (hoff 3 rfl) rfl
    have e10 := look_off (N := 36) (hoff 10 rfl) rfl
    have e18 := hrel 0 rfl 18 rfl
    have e32 := hrel 14 rfl 32 rfl
    have e33 := hrel 15 rfl 33 rfl
    obtain ⟨H, -⟩ := (show Hp S0 σ0 σ28 [Ch.ro 0 (Sl a20 x15.2.1 c21) x15.2.1, Ch.ro 0 (Sl alist_0 list_0 clist_0) list_0, Ch.ro 0 (Sl aat_2 at_2 cat_2) at_2, Ch.own n0 n0 (Sl a6 s4.1 c7) s4.1] ∧ Md (cov []) σ5 σ28 from hJ)
    clear hJ Hs
    rw [fr_lookL (L := [(0, (Sl alist_0 list_0 clist_0)), (1, (I kind_1)), (2, (Sl aat_2 at_2 cat_2)), (3, (I k_3)), (10, (I s4.2)), (18, (Sl a6 s4.1 c7)), (32, (.agg #[(I x9.1), (I r25)])), (33, (I k_3))]) ⟨e0, e1, e2, e3, e10, e18, e32, e33, trivial⟩]
    clear hoff hrel e0 e1 e2 e3 e10 e18 e32 e33
    obtain ⟨σ29, hw30, H, -⟩ := H.pub 3 rfl (Nat.le_refl _)
    rw [← hw30]; clear hw30
    replace H := H.roLow 0 0 rfl (Nat.zero_le _)
    obtain ⟨r31, hx32, h'⟩ := bind_some h
    clear h
    have h := h'; clear h'
    have hc33 := c_spec_addHit (alist_0 := a6) (clist_0 := c7) hx32
    refine st_call (cx_call hc33 (ent_f hc33.fn rfl) hn0 (show Hp S0 σ0 _ ([Ch.ro 0 (Sl a6 s4.1 c7) s4.1] ++ [Ch.ro 0 (Sl a6 s4.1 c7) s4.1, Ch.ro n0 (Sl a6 s4.1 c7) s4.1, Ch.ro 0 (Sl a20 x15.2.1 c21) x15.2.1, Ch.ro 0 (Sl alist_0 list_0 clist_0) list_0, Ch.ro 0 (Sl aat_2 at_2 cat_2) at_2]) from (H.sel' [0, 0, 1, 2, 3, 4] rfl rfl))) wn ?_
    rintro _ σ36 ⟨_, ⟨a34, c35, rfl, rfl⟩, H, -⟩
    replace H : Hp S0 σ0 σ36 [Ch.own n0 n0 (Sl a34 r31 c35) r31, Ch.ro 0 (Sl a6 s4.1 c7) s4.1, Ch.ro n0 (Sl a6 s4.1 c7) s4.1, Ch.ro 0 (Sl a20 x15.2.1 c21) x15.2.1, Ch.ro 0 (Sl alist_0 list_0 clist_0) list_0, Ch.ro 0 (Sl aat_2 at_2 cat_2) at_2] := H
    refine st (v := (Sl a34 r31 c35)) (rv_assign rfl) ?_
    refine w_end ?_
    refine q_blk ?_
    refine q_then ?_
    refine rg ?_
    refine st (v := (I s4.2)) (rv_move rfl) ?_
    refine st (v := (I (w64 (s4.2 + 1)))) (rv_add (a := s4.2) (b := 1) rfl rfl) ?_
    refine st (v := (I (w64 (s4.2 + 1)))) (rv_assign rfl) ?_
    refine w_end ?_
    refine q_then ?_
    obtain rfl := Option.some.inj h
    exact ⟨_, rfl, _, σ36, a34, c35, fr_join ⟨rfl, rfl, rfl, rfl, rfl, rfl, trivial⟩, rfl, H.sel' [4, 5, 0] rfl rfl⟩
  ·replace h := bif_f hb8 h
   refine c_exit ?_
   refine q_then_x ?_
   refine q_then_x ?_
   refine q_blk_hit ?_
   obtain rfl := Option.some.inj h
   obtain rfl := hres _ rfl
   exact ⟨rfl, _, σ5, a6, c7, fr_join ⟨rfl, trivial⟩, rfl, H.sel' [2] rfl rfl⟩
 ·clear hj
  have h := h'
  clear h' H
  rintro e a w ⟨rfl, ρ, σ37, a38, c39, rfl, rfl, H⟩
  refine q_then ?_
  refine c_seq ?_
  refine rg ?_
  refine st (v := (Sl a38 o3 c39)) (rv_move rfl) ?_
  refine st (v := (Sl a38 o3 c39)) (rv_assign rfl) ?_
  refine w_end ?_
  refine q_then ?_
  refine c_ret ?_
  obtain rfl := Option.some.inj h
  exact fin_ret (v := (Sl a38 o3 c39)) (results_ok Try.results41 (res_tmp (v := (Sl a38 o3 c39)) rfl res_nil) rfl) ⟨a38, c39, rfl, rfl⟩ (H.sel' [0] rfl rfl)

theorem c_spec_reader_one {r_0 : (List UInt8) × Int} {list_1 : List Int} {ar_0_0 : Option Addr} {cr_0_0 : Nat} {lor_0 br_0 or_0 : Nat} {prer_0 sufr_0 : List Value} {alist_1 : Option Addr} {clist_1 : Nat} {r : Int × ((List UInt8) × Int)} (h : M.spec_reader_one r_0 list_1 = some r) :
    Cal2 Try.prog 63 [(pt br_0 or_0), (Sl alist_1 list_1 clist_1)] [Ch.bx lor_0 br_0 or_0 [(Sl ar_0_0 r_0.1 cr_0_0), (I r_0.2)] prer_0 sufr_0, Ch.ro 0 (Sl ar_0_0 r_0.1 cr_0_0) r_0.1, Ch.ro 0 (Sl alist_1 list_1 clist_1) list_1] (fun n0 v L => ∃ (az1 : Option Addr), ∃ (cz2 : Nat), v = (I r.1) ∧ L = [Ch.bx lor_0 br_0 or_0 [(Sl az1 r.2.1 cz2), (I r.2.2)] prer_0 sufr_0, Ch.ro 0 (Sl az1 r.2.1 cz2) r.2.1]) := by
 refine cal2 (n := 12) Try.func63 rfl rfl rfl rfl ?_
 intro S0 σ0 n0 hn0 H
 unfold M.spec_reader_one at h
 refine c_seq ?_
 refine rg ?_
 refine st (v := (I 0)) (rv_assign rfl) ?_
 refine w_end ?_
 refine q_then ?_
 refine c_seq ?_
 refine rg ?_
 refine st (v := (Sl alist_1 list_1 clist_1)) (rv_move rfl) ?_
 refine st (v := (pt br_0 or_0)) (rv_move rfl) ?_
 refine st (v := (Sl alist_1 list_1 clist_1)) (rv_move rfl) ?_
 refine st (v := (I (list_1.length : Int))) (rv_len Try.underlying24 rfl) ?_
 obtain ⟨r1, hx2, h'⟩ := bind_some h
 clear h
 have h := h'; clear h'
 have hc3 := c_spec_reader_pick (lor_0 := lor_0) (br_0 := br_0) (or_0 := or_0) (prer_0 := prer_0) (sufr_0 := sufr_0) (ar_0_0 := ar_0_0) (cr_0_0 := cr_0_0) hx2
 refine st_call (cx_call hc3 (ent_f hc3.fn rfl) hn0 (show Hp S0 σ0 _ ([Ch.bx lor_0 br_0 or_0 [(Sl ar_0_0 r_0.1 cr_0_0), (I r_0.2)] prer_0 sufr_0, Ch.ro 0 (Sl ar_0_0 r_0.1 cr_0_0) r_0.1] ++ [Ch.ro 0 (Sl ar_0_0 r_0.1 cr_0_0) r_0.1, Ch.ro 0 (Sl alist_1 list_1 clist_1) list_1]) from (H.sel' [0, 1, 1, 2] rfl rfl))) wn ?_
 rintro _ σ6 ⟨_, ⟨a4, c5, rfl, rfl⟩, H, -⟩
 replace H : Hp S0 σ0 σ6 [Ch.bx lor_0 br_0 or_0 [(Sl a4 r1.2.1 c5), (I r1.2.2)] prer_0 sufr_0, Ch.ro 0 (Sl a4 r1.2.1 c5) r1.2.1, Ch.ro 0 (Sl ar_0_0 r_0.1 cr_0_0) r_0.1, Ch.ro 0 (Sl alist_1 list_1 clist_1) list_1] := H
 obtain ⟨x7, hx8, h'⟩ := bind_some h
 clear h
 have h := h'; clear h'
 obtain ⟨b10, o11, hi9, -⟩ := (H.ro 3 rfl).ix hx8
 refine st (v := (pt b10 o11)) (rv_ix Try.underlying24 ti3 rfl rfl hi9) ?_
 have hc12 := ((H.ro 3 rfl).at hx8 hi9).int
 refine st (v := (I x7)) (rv_load1 Try.underlying3 rfl rfl hc12) ?_
 refine st (v := (I x7)) (rv_assign rfl) ?_
 refine w_end ?_
 refine q_then ?_
 refine c_ret ?_
 obtain rfl := Option.some.inj h
 exact fin_ret (v := (I x7)) (results_ok Try.results63 (res_tmp (v := (I x7)) rfl res_nil) rfl) ⟨a4, c5, rfl, rfl⟩ (H.sel' [0, 1] rfl rfl)

theorem c_spec_inRange {n_0 : Int} {low_1 : Int} {high_2 : Int}  {r : Bool} (h : M.spec_inRange n_0 low_1 high_2 = some r) :
    Cal2 Try.prog 40 [(I n_0), (I low_1), (I high_2)] [] (fun n0 v L => v = (B r) ∧ L = []) := by
 refine cal2 (n := 15) Try.func40 rfl rfl rfl rfl ?_
 intro S0 σ0 n0 hn0 H
 unfold M.spec_inRange at h
 refine c_seq ?_
 refine rg ?_
 refine st (v := (B false)) (rv_assign rfl) ?_
 refine w_end ?_
 refine q_then ?_
 refine c_seq ?_
 refine rg ?_
 refine st (v := (I low_1)) (rv_move rfl) ?_
 refine st (v := (I n_0)) (rv_move rfl) ?_
 refine st (v := (B (decide (low_1 ≤ n_0)))) (rv_leq (a := low_1) (b := n_0) rfl rfl) ?_
 refine st (v := (B (decide (low_1 ≤ n_0)))) (rv_move rfl) ?_
 rcases Bool.eq_false_or_eq_true (decide (low_1 ≤ n_0)) with hb1 | hb1
 ·replace h := bif_t hb1 h
  refine st_g (v := (I n_0)) (congrArg some hb1) (rv_move rfl) ?_
  refine st_g (v := (I high_2)) (congrArg some hb1) (rv_move rfl) ?_
  refine st_g (v := (B (decide (n_0 ≤ high_2)))) (congrArg some hb1) (rv_leq (a := n_0) (b := high_2) rfl rfl) ?_
  refine st (v := (B (decide (n_0 ≤ high_2)))) (rv_pick_t (congrArg B hb1) rfl) ?_
  refine st (v := (B (decide (n_0 ≤ high_2)))) (rv_assign rfl) ?_
  refine w_end ?_
  refine q_then ?_
  refine c_ret ?_
  obtain rfl := Option.some.inj h
  exact fin_ret (v := (B (decide (n_0 ≤ high_2)))) (results_ok Try.results40 (res_tmp (v := (B (decide (n_0 ≤ high_2)))) rfl res_nil) rfl) ⟨rfl, rfl⟩ (H.sel' [] rfl rfl)
 ·replace h := bif_f hb1 h
  refine st_skip (congrArg some hb1) ?_
  refine st_skip (congrArg some hb1) ?_
  refine st_skip (congrArg some hb1) ?_
  refine st (v := (B false)) (rv_pick_f (congrArg B hb1) rfl) ?_
  refine st (v := (B false)) (rv_assign rfl) ?_
  refine w_end ?_
  refine q_then ?_
  refine c_ret ?_
  obtain rfl := Option.some.inj h
  exact fin_ret (v := (B false)) (results_ok Try.results40 (res_tmp (v := (B false)) rfl res_nil) rfl) ⟨rfl, rfl⟩ (H.sel' [] rfl rfl)

end Go.Vs
