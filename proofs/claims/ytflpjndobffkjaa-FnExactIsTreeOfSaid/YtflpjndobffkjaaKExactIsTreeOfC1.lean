/- The functions compute what their models say. -/
import Derived.Test.YtflpjndobffkjaaKExactIsTreeOfM
import Derived.Test.YtflpjndobffkjaaExactIsTreeOfEng2
import Derived.Test.YtflpjndobffkjaaProg
set_option linter.unusedVariables false
set_option linter.unusedSimpArgs false
set_option maxRecDepth 20000
namespace Go.Vs
open Go Go.Proofs
attribute [local irreducible] Code.wp Code.wpIn wpList wpListIn wpQuiet Calls CallsIn

theorem ti3 : TI Try.prog 3 (.int .i64 0) 1 8 := TI.mk' (by kernel_rfl)
theorem ti29 : TI Try.prog 29 (.slice none 0 0) 1 24 := TI.mk' (by kernel_rfl)
theorem ti31 : TI Try.prog 31 (.agg #[(.int .i64 0), (.int .i64 0), (.int .i64 0), (.int .i64 0)]) 4 32 := TI.mk' (by kernel_rfl)
theorem ti34 : TI Try.prog 34 (.agg #[(.int .i64 0), (.slice none 0 0), (.int .i64 0)]) 3 40 := TI.mk' (by kernel_rfl)
theorem ti60 : TI Try.prog 60 (.pointer none) 1 8 := TI.mk' (by kernel_rfl)
theorem ti67 : TI Try.prog 67 (.agg #[(.int .i64 0), (.int .i64 0), (.int .i64 0), (.int .i64 0)]) 4 32 := TI.mk' (by kernel_rfl)
theorem ti86 : TI Try.prog 86 (.agg #[(.int .i64 0), (.slice none 0 0), (.int .i64 0)]) 3 40 := TI.mk' (by kernel_rfl)
theorem ti92 : TI Try.prog 92 (.agg #[(.int .i64 0), (.int .i64 0), (.int .i64 0), (.int .i64 0)]) 4 32 := TI.mk' (by kernel_rfl)
theorem ti98 : TI Try.prog 98 (.agg #[(.int .i64 0), (.slice none 0 0), (.int .i64 0), (.int .i64 0), (.pointer none), (.pointer none)]) 6 64 := TI.mk' (by kernel_rfl)
theorem ti107 : TI Try.prog 107 (.agg #[(.int .i64 0), (.int .i64 0)]) 2 16 := TI.mk' (by kernel_rfl)
theorem ti157 : TI Try.prog 157 (.int .u64 0) 1 8 := TI.mk' (by kernel_rfl)
theorem bp31 {fs : Array Field} (hT : Try.prog.underlying 31 = some (.struct fs)) (w : World) : (fs.mapM (fun f => do pure (f.offset, ← sizeOf f.type)) : Sem (Array (Nat × Nat))).run Try.prog w = .ok #[(0, 1), (1, 1), (2, 1), (3, 1)] w := by
  rw [Try.underlying31] at hT; cases hT
  simp [run_typeInfo ti3]
theorem bp98 {fs : Array Field} (hT : Try.prog.underlying 98 = some (.struct fs)) (w : World) : (fs.mapM (fun f => do pure (f.offset, ← sizeOf f.type)) : Sem (Array (Nat × Nat))).run Try.prog w = .ok #[(0, 3), (3, 1), (4, 1), (5, 1)] w := by
  rw [Try.underlying98] at hT; cases hT
  simp [run_typeInfo ti3, run_typeInfo ti34, run_typeInfo ti60]
theorem bp107 {fs : Array Field} (hT : Try.prog.underlying 107 = some (.struct fs)) (w : World) : (fs.mapM (fun f => do pure (f.offset, ← sizeOf f.type)) : Sem (Array (Nat × Nat))).run Try.prog w = .ok #[(0, 1), (1, 1)] w := by
  rw [Try.underlying107] at hT; cases hT
  simp [run_typeInfo ti3]
theorem intfs31 : IntFs Try.prog 0 (Try.prog.fieldsOf 31).toList := by
  rw [Program.fieldsOf, Try.underlying31]
  exact ⟨rfl, by decide, Try.underlying3, ⟨rfl, by decide, Try.underlying3, ⟨rfl, by decide, Try.underlying3, ⟨rfl, by decide, Try.underlying3, trivial⟩⟩⟩⟩

theorem c_impl_ValidVector {Aa : List Int} {Ac : Option Addr} {Ad : Nat} {r : Bool} (h : M.impl_ValidVector Aa = some r) :
    Cal2 Try.prog 45 [(Sl Ac Aa Ad)] [Ch.ro 0 (Sl Ac Aa Ad) Aa] (fun n0 v L => v = (B r) ∧ L = []) := by
 refine cal2 (n := 21) Try.func45 rfl rfl rfl rfl ?_
 intro S0 σ0 n0 hn0 H
 unfold M.impl_ValidVector at h
 refine c_seq (rg (st (v := (B false)) (rv_assign rfl) (w_end (q_then (c_seq (c_seq (rg (st (v := (Sl Ac Aa Ad)) (rv_move rfl) (st (v := (I (Aa.length : Int))) (rv_len Try.underlying29 rfl) (st (v := (B ((Aa.length : Int) != 4))) (rv_neq (a := (Aa.length : Int)) (b := 4) rfl rfl) (w_end ?_)))))))))))
 refine q_then ?_
 refine cd_cond ((Aa.length : Int) != 4) rfl (fun hb1 => ?_) (fun hb1 => ?_)
 ·replace h := bif_t hb1 h
  refine c_seq (rg (st (v := (B false)) (rv_assign rfl) (w_end (q_then (c_ret (q_then_r ?_))))))
  obtain rfl := Option.some.inj h
  exact fin_ret (v := (B false)) (results_ok Try.results45 (res_tmp (v := (B false)) rfl res_nil) rfl) ⟨rfl, rfl⟩ (H.sel' [] rfl rfl)
 ·replace h := bif_f hb1 h
  refine c_skip (q_then (c_seq (c_seq (rg (st (v := (Sl Ac Aa Ad)) (rv_move rfl) (st (v := (I (Aa.length : Int))) (rv_len Try.underlying29 rfl) (st (v := (I 0)) (rv_move rfl) (w_end (q_then ?_)))))))))
  obtain ⟨o2, hj, h'⟩ := bind_some h
  clear h
  refine c_cut (fun e a w => (∃ t, o2 = (.inl t) ∧ e = .normal ∧ ∃ (ρ : Nat → Value) (σ : St), a = fr 21 (updL ρ []) ∧ w = σ.w ∧ Hp S0 σ0 σ []) ∨ (∃ t, o2 = (.inr t) ∧ e = .ret ∧ ∃ (ρ : Nat → Value) (σ : St), a = fr 21 (updL ρ [(2, (B t))]) ∧ w = σ.w ∧ Hp S0 σ0 σ [])) ?_ ?_
  ·clear h'
   rename _ = some o2 => h
   refine c_blk (wp_loopM _ h (fun s3 a w => ∃ (ρ : Nat → Value) (σ : St), a = fr 21 (updL ρ [(8, (Sl Ac Aa Ad)), (9, (I (Aa.length : Int))), (10, (I s3))]) ∧ w = σ.w ∧ Hp S0 σ0 σ [Ch.ro 0 (Sl Ac Aa Ad) Aa]) ⟨_, σ0, fr_join ⟨rfl, rfl, rfl, trivial⟩, rfl, H.sel' [0] rfl rfl⟩ ?_)
   clear h H
   rintro s3 a w o ⟨ρ, σ4, rfl, rfl, H⟩ h hres
   refine c_seq (rg (st (v := (B (decide (s3 < (Aa.length : Int))))) (rv_lss (a := s3) (b := (Aa.length : Int)) rfl rfl) (w_end (q_then (c_seq ?_)))))
   refine cd_cond (decide (s3 < (Aa.length : Int))) rfl (fun hb5 => ?_) (fun hb5 => ?_)
   ·replace h := bif_t hb5 h
    refine c_skip (q_then (c_seq (c_blk (c_seq (rg ?_)))))
    obtain ⟨x6, hx7, h'⟩ := bind_some h
    clear h
    have h := h'; clear h'
    obtain ⟨b9, o10, hi8, -⟩ := (H.ro 0 rfl).ix hx7
    refine st (v := (pt b9 o10)) (rv_ix Try.underlying29 ti3 rfl rfl hi8) ?_
    have hc11 := ((H.ro 0 rfl).at hx7 hi8).int
    refine st (v := (I x6)) (rv_load1 Try.underlying3 rfl rfl hc11) (st (v := (I x6)) (rv_assign rfl) (w_end (q_then (c_seq ?_))))
    obtain ⟨o12, hj, h'⟩ := bind_some h
    clear h
    refine c_cut (fun e a w => e = .normal ∧ ∃ (ρ : Nat → Value) (σ : St), a = fr 21 (updL ρ [(8, (Sl Ac Aa Ad)), (9, (I (Aa.length : Int))), (10, (I s3)), (19, (B o12))]) ∧ w = σ.w ∧ Hp S0 σ0 σ [Ch.ro 0 (Sl Ac Aa Ad) Aa]) ?_ ?_
    ·clear h'
     rename _ = some o12 => h
     refine rg (st (v := (I x6)) (rv_move rfl) (st (v := (B (decide (x6 < (-100))))) (rv_lss (a := x6) (b := (-100)) rfl rfl) (st (v := (B (decide (x6 < (-100))))) (rv_move rfl) ?_)))
     rcases Bool.eq_false_or_eq_true (decide (x6 < (-100))) with hb13 | hb13
     ·replace h := bif_t hb13 h
      refine st_skip (congrArg some hb13) (st_skip (congrArg some hb13) (st (v := (B true)) (rv_pick_t (congrArg B hb13) rfl) (w_end ?_)))
      obtain rfl := Option.some.inj h
      exact ⟨rfl, _, σ4, fr_join ⟨rfl, rfl, rfl, rfl, trivial⟩, rfl, H.sel' [0] rfl rfl⟩
     ·replace h := bif_f hb13 h
      refine st_g (v := (I x6)) (congrArg some hb13) (rv_move rfl) (st_g (v := (B (decide (100 < x6)))) (congrArg some hb13) (rv_gtr (a := x6) (b := 100) rfl rfl) (st (v := (B (decide (100 < x6)))) (rv_pick_f (congrArg B hb13) rfl) (w_end ?_)))
      obtain rfl := Option.some.inj h
      exact ⟨rfl, _, σ4, fr_join ⟨rfl, rfl, rfl, rfl, trivial⟩, rfl, H.sel' [0] rfl rfl⟩
    ·clear hj
     have h := h'
     clear h' H
     rintro e a w ⟨rfl, ρ, σ14, rfl, rfl, H⟩
     refine q_then ?_
     refine cd_cond o12 rfl (fun hb15 => ?_) (fun hb15 => ?_)
     ·replace h := bif_t hb15 h
      refine c_seq (rg (st (v := (B false)) (rv_assign rfl) (w_end (q_then (c_ret (q_blk_r (q_then_r (q_then_r (q_blk_r ?_)))))))))
      obtain rfl := Option.some.inj h
      obtain rfl := hres _ rfl
      exact .inr (⟨_, rfl, rfl, _, σ14, fr_join ⟨rfl, trivial⟩, rfl, H.sel' [] rfl rfl⟩)
     ·replace h := bif_f hb15 h
      refine c_skip (q_blk (q_then (rg (st (v := (I (w64 (s3 + 1)))) (rv_add (a := s3) (b := 1) rfl rfl) (st (v := (I (w64 (s3 + 1)))) (rv_move rfl) (w_end (q_then ?_)))))))
      obtain rfl := Option.some.inj h
      exact ⟨_, rfl, _, σ14, fr_join ⟨rfl, rfl, rfl, trivial⟩, rfl, H.sel' [0] rfl rfl⟩
   ·replace h := bif_f hb5 h
    refine c_exit (q_then_x (q_then_x (q_blk_hit ?_)))
    obtain rfl := Option.some.inj h
    obtain rfl := hres _ rfl
    exact .inl ⟨_, rfl, rfl, _, σ4, fr_join trivial, rfl, H.sel' [] rfl rfl⟩
  ·clear hj
   have h := h'
   clear h' H
   rintro e a w (⟨t16, rfl, rfl, ρ, σ17, rfl, rfl, H⟩ | ⟨t18, rfl, rfl, ρ, σ19, rfl, rfl, H⟩)
   ·replace h := selim_l h
    refine q_then (c_seq (rg (st (v := (B true)) (rv_assign rfl) (w_end (q_then (c_ret ?_))))))
    obtain rfl := Option.some.inj h
    exact fin_ret (v := (B true)) (results_ok Try.results45 (res_tmp (v := (B true)) rfl res_nil) rfl) ⟨rfl, rfl⟩ (H.sel' [] rfl rfl)
   ·replace h := selim_r h
    refine q_then_r ?_
    obtain rfl := Option.some.inj h
    exact fin_ret (v := (B t18)) (results_ok Try.results45 (res_tmp (v := (B t18)) rfl res_nil) rfl) ⟨rfl, rfl⟩ (H.sel' [] rfl rfl)

theorem c_impl_validKey {Ae : Int}  {r : Bool} (h : M.impl_validKey Ae = some r) :
    Cal2 Try.prog 85 [(I Ae)] [] (fun n0 v L => v = (B r) ∧ L = []) := by
 refine cal2 (n := 9) Try.func85 rfl rfl rfl rfl ?_
 intro S0 σ0 n0 hn0 H
 unfold M.impl_validKey at h
 refine c_seq (rg (st (v := (B false)) (rv_assign rfl) (w_end (q_then (c_seq (rg (st (v := (I Ae)) (rv_move rfl) (st (v := (B (decide (1 ≤ Ae)))) (rv_geq (a := Ae) (b := 1) rfl rfl) (st (v := (B (decide (1 ≤ Ae)))) (rv_move rfl) ?_)))))))))
 rcases Bool.eq_false_or_eq_true (decide (1 ≤ Ae)) with hb1 | hb1
 ·replace h := bif_t hb1 h
  refine st_g (v := (I Ae)) (congrArg some hb1) (rv_move rfl) (st_g (v := (B (decide (Ae ≤ 99)))) (congrArg some hb1) (rv_leq (a := Ae) (b := 99) rfl rfl) (st (v := (B (decide (Ae ≤ 99)))) (rv_pick_t (congrArg B hb1) rfl) (st (v := (B (decide (Ae ≤ 99)))) (rv_assign rfl) (w_end (q_then (c_ret ?_))))))
  obtain rfl := Option.some.inj h
  exact fin_ret (v := (B (decide (Ae ≤ 99)))) (results_ok Try.results85 (res_tmp (v := (B (decide (Ae ≤ 99)))) rfl res_nil) rfl) ⟨rfl, rfl⟩ (H.sel' [] rfl rfl)
 ·replace h := bif_f hb1 h
  refine st_skip (congrArg some hb1) (st_skip (congrArg some hb1) (st (v := (B false)) (rv_pick_f (congrArg B hb1) rfl) (st (v := (B false)) (rv_assign rfl) (w_end (q_then (c_ret ?_))))))
  obtain rfl := Option.some.inj h
  exact fin_ret (v := (B false)) (results_ok Try.results85 (res_tmp (v := (B false)) rfl res_nil) rfl) ⟨rfl, rfl⟩ (H.sel' [] rfl rfl)

theorem c_impl_validItem {Af : Int × (List Int) × Int} {Ag : Option Addr} {Ah : Nat} {r : Bool} (h : M.impl_validItem Af = some r) :
    Cal2 Try.prog 65 [(.agg #[(I Af.1), (Sl Ag Af.2.1 Ah), (I Af.2.2)])] [Ch.ro 0 (Sl Ag Af.2.1 Ah) Af.2.1] (fun n0 v L => v = (B r) ∧ L = []) := by
 refine cal2 (n := 21) Try.func65 rfl rfl rfl rfl ?_
 intro S0 σ0 n0 hn0 H
 unfold M.impl_validItem at h
 refine c_seq (rg (st_ex (ex_box (cs := [(I Af.1), (Sl Ag Af.2.1 Ah), (I Af.2.2)]) H hn0 rfl rfl) wn ?_))
 rintro _ σ2 ⟨b1, rfl, H, -⟩
 refine st (v := (B false)) (rv_assign rfl) (w_end (q_then (c_seq (rg (st (v := (pt b1 0)) (rv_fieldAddr (off := 0) (ft := 3) Try.underlying34 rfl ti3 rfl rfl) ?_)))))
 have hc3 := H.cell (u := (I Af.1)) (o' := 0) 0 0 rfl rfl rfl
 refine st (v := (I Af.1)) (rv_load1 Try.underlying3 rfl rfl hc3) ?_
 obtain ⟨r4, hx5, h'⟩ := bind_some h
 clear h
 have h := h'; clear h'
 have hc6 := c_impl_validKey hx5
 refine st_call (cx_call hc6 (ent_f hc6.fn rfl) hn0 (H.sel' [0, 1] rfl rfl : Hp S0 σ0 _ ([] ++ _))) wn ?_
 rintro _ σ7 ⟨_, ⟨rfl, rfl⟩, H, -⟩
 replace H : Hp _ _ _ [_, _] := H
 refine st (v := (B r4)) (rv_move rfl) ?_
 rcases Bool.eq_false_or_eq_true r4 with hb8 | hb8
 ·replace h := bif_t hb8 h
  refine st_g (v := (pt b1 1)) (congrArg some hb8) (rv_fieldAddr (off := 1) (ft := 29) Try.underlying34 rfl ti29 rfl rfl) ?_
  have hc9 := H.cell (u := (Sl Ag Af.2.1 Ah)) (o' := 1) 0 1 rfl rfl rfl
  refine st_g (v := (Sl Ag Af.2.1 Ah)) (congrArg some hb8) (rv_load1 Try.underlying29 rfl rfl hc9) ?_
  obtain ⟨r10, hx11, h'⟩ := bind_some h
  clear h
  have h := h'; clear h'
  have hc12 := c_impl_ValidVector (Ac := Ag) (Ad := Ah) hx11
  refine st_call (cx_call hc12 (ent_f hc12.fn rfl) hn0 (H.sel' [1, 0, 1] rfl rfl : Hp S0 σ0 _ ([_] ++ _))) (wanted_yes rfl (by exact (congrArg some hb8))) ?_
  rintro _ σ13 ⟨_, ⟨rfl, rfl⟩, H, -⟩
  replace H : Hp _ _ _ [_, _] := H
  refine st (v := (B r10)) (rv_pick_t (congrArg B hb8) rfl) (st (v := (B r10)) (rv_move rfl) ?_)
  rcases Bool.eq_false_or_eq_true r10 with hb14 | hb14
  ·replace h := bif_t hb14 h
   refine st_g (v := (pt b1 2)) (congrArg some hb14) (rv_fieldAddr (off := 2) (ft := 3) Try.underlying34 rfl ti3 rfl rfl) ?_
   have hc15 := H.cell (u := (I Af.2.2)) (o' := 2) 0 2 rfl rfl rfl
   refine st_g (v := (I Af.2.2)) (congrArg some hb14) (rv_load1 Try.underlying3 rfl rfl hc15) (st_g (v := (B (decide (0 ≤ Af.2.2)))) (congrArg some hb14) (rv_geq (a := Af.2.2) (b := 0) rfl rfl) (st (v := (B (decide (0 ≤ Af.2.2)))) (rv_pick_t (congrArg B hb14) rfl) (st (v := (B (decide (0 ≤ Af.2.2)))) (rv_move rfl) ?_)))
   rcases Bool.eq_false_or_eq_true (decide (0 ≤ Af.2.2)) with hb16 | hb16
   ·replace h := bif_t hb16 h
    refine st_g (v := (pt b1 2)) (congrArg some hb16) (rv_fieldAddr (off := 2) (ft := 3) Try.underlying34 rfl ti3 rfl rfl) ?_
    have hc17 := H.cell (u := (I Af.2.2)) (o' := 2) 0 2 rfl rfl rfl
    refine st_g (v := (I Af.2.2)) (congrArg some hb16) (rv_load1 Try.underlying3 rfl rfl hc17) (st_g (v := (B (decide (Af.2.2 ≤ 15)))) (congrArg some hb16) (rv_leq (a := Af.2.2) (b := 15) rfl rfl) (st (v := (B (decide (Af.2.2 ≤ 15)))) (rv_pick_t (congrArg B hb16) rfl) (st (v := (B (decide (Af.2.2 ≤ 15)))) (rv_assign rfl) (w_end (q_then (c_ret ?_))))))
    obtain rfl := Option.some.inj h
    exact fin_ret (v := (B (decide (Af.2.2 ≤ 15)))) (results_ok Try.results65 (res_tmp (v := (B (decide (Af.2.2 ≤ 15)))) rfl res_nil) rfl) ⟨rfl, rfl⟩ (H.sel' [] rfl rfl)
   ·replace h := bif_f hb16 h
    refine st_skip (congrArg some hb16) (st_skip (congrArg some hb16) (st_skip (congrArg some hb16) (st (v := (B false)) (rv_pick_f (congrArg B hb16) rfl) (st (v := (B false)) (rv_assign rfl) (w_end (q_then (c_ret ?_)))))))
    obtain rfl := Option.some.inj h
    exact fin_ret (v := (B false)) (results_ok Try.results65 (res_tmp (v := (B false)) rfl res_nil) rfl) ⟨rfl, rfl⟩ (H.sel' [] rfl rfl)
  ·replace h := bif_f hb14 h
   refine st_skip (congrArg some hb14) (st_skip (congrArg some hb14) (st_skip (congrArg some hb14) (st (v := (B false)) (rv_pick_f (congrArg B hb14) rfl) (st (v := (B false)) (rv_move rfl) (st_skip rfl (st_skip rfl (st_skip rfl (st (v := (B false)) (rv_pick_f rfl rfl) (st (v := (B false)) (rv_assign rfl) (w_end (q_then ?_)))))))))))
   refine c_ret ?_
   obtain rfl := Option.some.inj h
   exact fin_ret (v := (B false)) (results_ok Try.results65 (res_tmp (v := (B false)) rfl res_nil) rfl) ⟨rfl, rfl⟩ (H.sel' [] rfl rfl)
 ·replace h := bif_f hb8 h
  refine st_skip (congrArg some hb8) (st_skip (congrArg some hb8) (st_skip (congrArg some hb8) (st (v := (B false)) (rv_pick_f (congrArg B hb8) rfl) (st (v := (B false)) (rv_move rfl) (st_skip rfl (st_skip rfl (st_skip rfl (st (v := (B false)) (rv_pick_f rfl rfl) (st (v := (B false)) (rv_move rfl) (st_skip rfl (st_skip rfl ?_)))))))))))
  refine st_skip rfl (st (v := (B false)) (rv_pick_f rfl rfl) (st (v := (B false)) (rv_assign rfl) (w_end (q_then (c_ret ?_)))))
  obtain rfl := Option.some.inj h
  exact fin_ret (v := (B false)) (results_ok Try.results65 (res_tmp (v := (B false)) rfl res_nil) rfl) ⟨rfl, rfl⟩ (H.sel' [] rfl rfl)

theorem c_impl_ValidStore {Ai : List (Int × (List Int) × Int)} {Aj : Option Addr} {Ak : Nat} {r : Bool} (h : M.impl_ValidStore Ai = some r) :
    Cal2 Try.prog 37 [(Sl Aj Ai Ak)] [Ch.ro 0 (Sl Aj Ai Ak) Ai] (fun n0 v L => v = (B r) ∧ L = []) := by
 refine cal2 (n := 27) Try.func37 rfl rfl rfl rfl ?_
 intro S0 σ0 n0 hn0 H
 unfold M.impl_ValidStore at h
 refine c_seq (rg (st (v := (B false)) (rv_assign rfl) (w_end (q_then (c_seq (c_seq (rg (st (v := (Sl Aj Ai Ak)) (rv_move rfl) (st (v := (I (Ai.length : Int))) (rv_len Try.underlying23 rfl) (st (v := (B (decide (16 < (Ai.length : Int))))) (rv_gtr (a := (Ai.length : Int)) (b := 16) rfl rfl) (w_end ?_)))))))))))
 refine q_then ?_
 refine cd_cond (decide (16 < (Ai.length : Int))) rfl (fun hb1 => ?_) (fun hb1 => ?_)
 ·replace h := bif_t hb1 h
  refine c_seq (rg (st (v := (B false)) (rv_assign rfl) (w_end (q_then (c_ret (q_then_r ?_))))))
  obtain rfl := Option.some.inj h
  exact fin_ret (v := (B false)) (results_ok Try.results37 (res_tmp (v := (B false)) rfl res_nil) rfl) ⟨rfl, rfl⟩ (H.sel' [] rfl rfl)
 ·replace h := bif_f hb1 h
  refine c_skip (q_then (c_seq (rg (st (v := (I 0)) (rv_assign rfl) (w_end (q_then (c_seq (c_seq (rg (st (v := (Sl Aj Ai Ak)) (rv_move rfl) (st (v := (I (Ai.length : Int))) (rv_len Try.underlying23 rfl) ?_)))))))))))
  refine st (v := (I 0)) (rv_move rfl) (w_end (q_then ?_))
  obtain ⟨o2, hj, h'⟩ := bind_some h
  clear h
  refine c_cut (fun e a w => (∃ t, o2 = (.inl t) ∧ e = .normal ∧ ∃ (ρ : Nat → Value) (σ : St), a = fr 27 (updL ρ []) ∧ w = σ.w ∧ Hp S0 σ0 σ []) ∨ (∃ t, o2 = (.inr t) ∧ e = .ret ∧ ∃ (ρ : Nat → Value) (σ : St), a = fr 27 (updL ρ [(2, (B t))]) ∧ w = σ.w ∧ Hp S0 σ0 σ [])) ?_ ?_
  ·clear h'
   rename _ = some o2 => h
   refine c_blk (wp_loopM _ h (fun s3 a w => ∃ (ρ : Nat → Value) (σ : St), a = fr 27 (updL ρ [(3, (I s3.1)), (9, (Sl Aj Ai Ak)), (10, (I (Ai.length : Int))), (11, (I s3.2))]) ∧ w = σ.w ∧ Hp S0 σ0 σ [Ch.ro 0 (Sl Aj Ai Ak) Ai]) ⟨_, σ0, fr_join ⟨rfl, rfl, rfl, rfl, trivial⟩, rfl, H.sel' [0] rfl rfl⟩ ?_)
   clear h H
   rintro s3 a w o ⟨ρ, σ4, rfl, rfl, H⟩ h hres
   refine c_seq (rg (st (v := (B (decide (s3.2 < (Ai.length : Int))))) (rv_lss (a := s3.2) (b := (Ai.length : Int)) rfl rfl) (w_end (q_then (c_seq ?_)))))
   refine cd_cond (decide (s3.2 < (Ai.length : Int))) rfl (fun hb5 => ?_) (fun hb5 => ?_)
   ·replace h := bif_t hb5 h
    refine c_skip (q_then (c_seq (c_blk (c_seq (rg ?_)))))
    obtain ⟨x6, hx7, h'⟩ := bind_some h
    clear h
    have h := h'; clear h'
    obtain ⟨b9, o10, hi8, -⟩ := (H.ro 0 rfl).ix hx7
    refine st (v := (pt b9 o10)) (rv_ix Try.underlying23 ti34 rfl rfl hi8) ?_
    obtain ⟨_, ⟨_, _, rfl, rfl, ⟨_, _, rfl, ⟨_, rfl, hR15⟩, rfl⟩⟩, hl11, hc12⟩ := ((H.ro 0 rfl).at hx7 hi8).cells
    obtain ⟨a13, c14, rfl⟩ := hR15.isSl
    replace H := H.add (d := Ch.ro 0 (Sl a13 x6.2.1 c14) x6.2.1) hR15 (fun _ h => h)
    clear hR15
    refine st (v := (.agg #[(I x6.1), (Sl a13 x6.2.1 c14), (I x6.2.2)])) (rv_load Try.underlying34 rfl ti34 rfl hl11 hc12) (st_ex (ex_alloc (cs := [(I 0), (.slice none 0 0), (I 0)]) H hn0 ti34 rfl) wn ?_)
    rintro _ σ17 ⟨b16, rfl, H, -⟩
    refine st_exS (ex_store_box (k := 0) (cs := [(I 0), (.slice none 0 0), (I 0)]) (vs := [(I x6.1), (Sl a13 x6.2.1 c14), (I x6.2.2)]) (cs' := [(I x6.1), (Sl a13 x6.2.1 c14), (I x6.2.2)]) H (i := 0) rfl ti34 rfl rfl rfl rfl rfl (Nat.le_of_ble_eq_true rfl) (by simp [plain]) rfl) wn ?_
    rintro σ18 ⟨H, -⟩
    refine w_end (q_then (c_seq (c_seq ?_)))
    obtain ⟨o19, hj, h'⟩ := bind_some h
    clear h
    refine c_cut (fun e a w => e = .normal ∧ ∃ (ρ : Nat → Value) (σ : St), a = fr 27 (updL ρ [(5, (pt b16 0)), (9, (Sl Aj Ai Ak)), (10, (I (Ai.length : Int))), (11, (I s3.2)), (23, (B o19))]) ∧ w = σ.w ∧ Hp S0 σ0 σ [Ch.ro 0 (Sl a13 x6.2.1 c14) x6.2.1, Ch.bx n0 b16 0 [(I x6.1), (Sl a13 x6.2.1 c14), (I x6.2.2)] [] [], Ch.ro 0 (Sl Aj Ai Ak) Ai]) ?_ ?_
    ·clear h'
     rename _ = some o19 => h
     refine rg ?_
     have hc20 := H.cells 0 rfl
     refine st (v := (.agg #[(I x6.1), (Sl a13 x6.2.1 c14), (I x6.2.2)])) (rv_load (cs := [(I x6.1), (Sl a13 x6.2.1 c14), (I x6.2.2)]) Try.underlying34 rfl ti34 rfl rfl hc20) ?_
     obtain ⟨r21, hx22, h'⟩ := bind_some h
     clear h
     have h := h'; clear h'
     have hc23 := c_impl_validItem (Ag := a13) (Ah := c14) hx22
     refine st_call (cx_call hc23 (ent_f hc23.fn rfl) hn0 (H.sel' [1, 0, 1, 2] rfl rfl : Hp S0 σ0 _ ([_] ++ _))) wn ?_
     rintro _ σ24 ⟨_, ⟨rfl, rfl⟩, H, -⟩
     replace H : Hp _ _ _ [_, _, _] := H
     refine st (v := (B (!r21))) (rv_not rfl) (st (v := (B (!r21))) (rv_move rfl) ?_)
     rcases Bool.eq_false_or_eq_true (!r21) with hb25 | hb25
     ·replace h := bif_t hb25 h
      refine st_skip (congrArg some hb25) (st_skip (congrArg some hb25) (st_skip (congrArg some hb25) (st_skip (congrArg some hb25) (st (v := (B true)) (rv_pick_t (congrArg B hb25) rfl) (w_end ?_)))))
      obtain rfl := Option.some.inj h
      exact ⟨rfl, _, σ24, fr_join ⟨rfl, rfl, rfl, rfl, rfl, trivial⟩, rfl, H.sel' [1, 0, 2] rfl rfl⟩
     ·replace h := bif_f hb25 h
      refine st_g (v := (pt b16 0)) (congrArg some hb25) (rv_fieldAddr (off := 0) (ft := 3) Try.underlying34 rfl ti3 rfl rfl) ?_
      have hc26 := H.cell (u := (I x6.1)) (o' := 0) 0 0 rfl rfl rfl
      refine st_g (v := (I x6.1)) (congrArg some hb25) (rv_load1 Try.underlying3 rfl rfl hc26) (st_g (v := (I s3.1)) (congrArg some hb25) (rv_move rfl) (st_g (v := (B (decide (x6.1 ≤ s3.1)))) (congrArg some hb25) (rv_leq (a := x6.1) (b := s3.1) rfl rfl) (st (v := (B (decide (x6.1 ≤ s3.1)))) (rv_pick_f (congrArg B hb25) rfl) (w_end ?_))))
      obtain rfl := Option.some.inj h
      exact ⟨rfl, _, σ24, fr_join ⟨rfl, rfl, rfl, rfl, rfl, trivial⟩, rfl, H.sel' [1, 0, 2] rfl rfl⟩
    ·clear hj
     have h := h'
     clear h' H
     rintro e a w ⟨rfl, ρ, σ27, rfl, rfl, H⟩
     refine q_then ?_
     refine cd_cond o19 rfl (fun hb28 => ?_) (fun hb28 => ?_)
     ·replace h := bif_t hb28 h
      refine c_seq (rg (st (v := (B false)) (rv_assign rfl) (w_end (q_then (c_ret (q_then_r (q_blk_r (q_then_r (q_then_r (q_blk_r ?_))))))))))
      obtain rfl := Option.some.inj h
      obtain rfl := hres _ rfl
      exact .inr (⟨_, rfl, rfl, _, σ27, fr_join ⟨rfl, trivial⟩, rfl, H.sel' [] rfl rfl⟩)
     ·replace h := bif_f hb28 h
      refine c_skip (q_then (rg (st (v := (pt b16 0)) (rv_fieldAddr (off := 0) (ft := 3) Try.underlying34 rfl ti3 rfl rfl) ?_)))
      have hc29 := H.cell (u := (I x6.1)) (o' := 0) 1 0 rfl rfl rfl
      refine st (v := (I x6.1)) (rv_load1 Try.underlying3 rfl rfl hc29) (st (v := (I x6.1)) (rv_assign rfl) (w_end (q_blk (q_then (rg (st (v := (I (w64 (s3.2 + 1)))) (rv_add (a := s3.2) (b := 1) rfl rfl) (st (v := (I (w64 (s3.2 + 1)))) (rv_move rfl) (w_end (q_then ?_)))))))))
      obtain rfl := Option.some.inj h
      exact ⟨_, rfl, _, σ27, fr_join ⟨rfl, rfl, rfl, rfl, trivial⟩, rfl, H.sel' [2] rfl rfl⟩
   ·replace h := bif_f hb5 h
    refine c_exit (q_then_x (q_then_x (q_blk_hit ?_)))
    obtain rfl := Option.some.inj h
    obtain rfl := hres _ rfl
    exact .inl ⟨_, rfl, rfl, _, σ4, fr_join trivial, rfl, H.sel' [] rfl rfl⟩
  ·clear hj
   have h := h'
   clear h' H
   rintro e a w (⟨t30, rfl, rfl, ρ, σ31, rfl, rfl, H⟩ | ⟨t32, rfl, rfl, ρ, σ33, rfl, rfl, H⟩)
   ·replace h := selim_l h
    refine q_then (c_seq (rg (st (v := (B true)) (rv_assign rfl) (w_end (q_then (c_ret ?_))))))
    obtain rfl := Option.some.inj h
    exact fin_ret (v := (B true)) (results_ok Try.results37 (res_tmp (v := (B true)) rfl res_nil) rfl) ⟨rfl, rfl⟩ (H.sel' [] rfl rfl)
   ·replace h := selim_r h
    refine q_then_r ?_
    obtain rfl := Option.some.inj h
    exact fin_ret (v := (B t32)) (results_ok Try.results37 (res_tmp (v := (B t32)) rfl res_nil) rfl) ⟨rfl, rfl⟩ (H.sel' [] rfl rfl)

theorem c_impl_validKind {Am : Int}  {r : Bool} (h : M.impl_validKind Am = some r) :
    Cal2 Try.prog 66 [(I Am)] [] (fun n0 v L => v = (B r) ∧ L = []) := by
 refine cal2 (n := 9) Try.func66 rfl rfl rfl rfl ?_
 intro S0 σ0 n0 hn0 H
 unfold M.impl_validKind at h
 refine c_seq (rg (st (v := (B false)) (rv_assign rfl) (w_end (q_then (c_seq (rg (st (v := (I Am)) (rv_move rfl) (st (v := (B (decide (1 ≤ Am)))) (rv_geq (a := Am) (b := 1) rfl rfl) (st (v := (B (decide (1 ≤ Am)))) (rv_move rfl) ?_)))))))))
 rcases Bool.eq_false_or_eq_true (decide (1 ≤ Am)) with hb1 | hb1
 ·replace h := bif_t hb1 h
  refine st_g (v := (I Am)) (congrArg some hb1) (rv_move rfl) (st_g (v := (B (decide (Am ≤ 4)))) (congrArg some hb1) (rv_leq (a := Am) (b := 4) rfl rfl) (st (v := (B (decide (Am ≤ 4)))) (rv_pick_t (congrArg B hb1) rfl) (st (v := (B (decide (Am ≤ 4)))) (rv_assign rfl) (w_end (q_then (c_ret ?_))))))
  obtain rfl := Option.some.inj h
  exact fin_ret (v := (B (decide (Am ≤ 4)))) (results_ok Try.results66 (res_tmp (v := (B (decide (Am ≤ 4)))) rfl res_nil) rfl) ⟨rfl, rfl⟩ (H.sel' [] rfl rfl)
 ·replace h := bif_f hb1 h
  refine st_skip (congrArg some hb1) (st_skip (congrArg some hb1) (st (v := (B false)) (rv_pick_f (congrArg B hb1) rfl) (st (v := (B false)) (rv_assign rfl) (w_end (q_then (c_ret ?_))))))
  obtain rfl := Option.some.inj h
  exact fin_ret (v := (B false)) (results_ok Try.results66 (res_tmp (v := (B false)) rfl res_nil) rfl) ⟨rfl, rfl⟩ (H.sel' [] rfl rfl)

theorem c_impl_validTreeKind {Am : Int}  {r : Bool} (h : M.impl_validTreeKind Am = some r) :
    Cal2 Try.prog 38 [(I Am)] [] (fun n0 v L => v = (B r) ∧ L = []) := by
 refine cal2 (n := 9) Try.func38 rfl rfl rfl rfl ?_
 intro S0 σ0 n0 hn0 H
 unfold M.impl_validTreeKind at h
 refine c_seq (rg (st (v := (B false)) (rv_assign rfl) (w_end (q_then (c_seq (rg (st (v := (I Am)) (rv_move rfl) ?_)))))))
 obtain ⟨r1, hx2, h'⟩ := bind_some h
 clear h
 have h := h'; clear h'
 have hc3 := c_impl_validKind hx2
 refine st_call (cx_call hc3 (ent_f hc3.fn rfl) hn0 (H.sel' [] rfl rfl : Hp S0 σ0 _ ([] ++ _))) wn ?_
 rintro _ σ4 ⟨_, ⟨rfl, rfl⟩, H, -⟩
 replace H : Hp _ _ _ [] := H
 refine st (v := (B r1)) (rv_move rfl) ?_
 rcases Bool.eq_false_or_eq_true r1 with hb5 | hb5
 ·replace h := bif_t hb5 h
  refine st_g (v := (I Am)) (congrArg some hb5) (rv_move rfl) (st_g (v := (B (Am != 3))) (congrArg some hb5) (rv_neq (a := Am) (b := 3) rfl rfl) (st (v := (B (Am != 3))) (rv_pick_t (congrArg B hb5) rfl) (st (v := (B (Am != 3))) (rv_assign rfl) (w_end (q_then (c_ret ?_))))))
  obtain rfl := Option.some.inj h
  exact fin_ret (v := (B (Am != 3))) (results_ok Try.results38 (res_tmp (v := (B (Am != 3))) rfl res_nil) rfl) ⟨rfl, rfl⟩ (H.sel' [] rfl rfl)
 ·replace h := bif_f hb5 h
  refine st_skip (congrArg some hb5) (st_skip (congrArg some hb5) (st (v := (B false)) (rv_pick_f (congrArg B hb5) rfl) (st (v := (B false)) (rv_assign rfl) (w_end (q_then (c_ret ?_))))))
  obtain rfl := Option.some.inj h
  exact fin_ret (v := (B false)) (results_ok Try.results38 (res_tmp (v := (B false)) rfl res_nil) rfl) ⟨rfl, rfl⟩ (H.sel' [] rfl rfl)

theorem c_impl_distanceOf {Am : Int} {Ao : List Int} (Ap : Ao.length = 4) {r : Int} (h : M.impl_distanceOf Am Ao = some r) :
    Cal2 Try.prog 46 [(I Am), (.agg (List.map I Ao).toArray)] [] (fun n0 v L => v = (I r) ∧ L = []) := by
 refine cal2 (n := 38) Try.func46 rfl rfl rfl rfl ?_
 intro S0 σ0 n0 hn0 H
 unfold M.impl_distanceOf at h
 refine c_seq (rg (st_ex (ex_box (cs := (List.map I Ao)) H hn0 rfl rfl) wn ?_))
 rintro _ σ2 ⟨b1, rfl, H, -⟩
 refine st (v := (I 0)) (rv_assign rfl) (w_end (q_then (c_seq (rg (st (v := (I 0)) (rv_assign rfl) (w_end (q_then (c_seq (c_seq (rg ?_))))))))))
 have hc3 := H.cells 0 rfl
 refine st (v := (.agg (List.map I Ao).toArray)) (rv_load (cs := (List.map I Ao)) Try.underlying67 rfl ti67 rfl (by rw [List.length_map]; exact Ap) hc3) ?_
 refine st (v := (I 0)) (rv_move rfl) (w_end (q_then ?_))
 obtain ⟨o4, hj, h'⟩ := bind_some h
 clear h
 refine c_cut (fun e a w => (∃ t, o4 = (.inl t) ∧ e = .normal ∧ ∃ (ρ : Nat → Value) (σ : St), a = fr 38 (updL ρ [(5, (I t))]) ∧ w = σ.w ∧ Hp S0 σ0 σ []) ∨ (∃ t, o4 = (.inr t) ∧ e = .ret ∧ ∃ (ρ : Nat → Value) (σ : St), a = fr 38 (updL ρ [(4, (I t))]) ∧ w = σ.w ∧ Hp S0 σ0 σ [])) ?_ ?_
 ·clear h'
  rename _ = some o4 => h
  refine c_blk (wp_loopM _ h (fun s5 a w => ∃ (ρ : Nat → Value) (σ : St), a = fr 38 (updL ρ [(0, (I Am)), (5, (I s5.1)), (8, (.agg (List.map I Ao).toArray)), (9, (I s5.2))]) ∧ w = σ.w ∧ Hp S0 σ0 σ []) ⟨_, σ2, fr_join ⟨rfl, rfl, rfl, rfl, trivial⟩, rfl, H.sel' [] rfl rfl⟩ ?_)
  clear h H
  rintro s5 a w o ⟨ρ, σ6, rfl, rfl, H⟩ h hres
  refine c_seq (rg (st (v := (B (decide (s5.2 < 4)))) (rv_lss (a := s5.2) (b := 4) rfl rfl) (w_end (q_then (c_seq ?_)))))
  refine cd_cond (decide (s5.2 < 4)) rfl (fun hb7 => ?_) (fun hb7 => ?_)
  ·replace h := bif_t hb7 h
   refine c_skip (q_then (c_seq ?_))
   obtain ⟨o8, hj, h'⟩ := bind_some h
   clear h
   refine c_cut (fun e a w => (∃ t, o8 = (.inl t) ∧ e = .normal ∧ ∃ (ρ : Nat → Value) (σ : St), a = fr 38 (updL ρ [(0, (I Am)), (5, (I t)), (8, (.agg (List.map I Ao).toArray)), (9, (I s5.2))]) ∧ w = σ.w ∧ Hp S0 σ0 σ []) ∨ (∃ t, o8 = (.inr t) ∧ e = .ret ∧ ∃ (ρ : Nat → Value) (σ : St), a = fr 38 (updL ρ [(4, (I t))]) ∧ w = σ.w ∧ Hp S0 σ0 σ [])) ?_ ?_
   ·clear h'
    rename _ = some o8 => h
    refine c_blk (c_seq (rg ?_))
    obtain ⟨x9, hx10, h'⟩ := bind_some h
    clear h
    have h := h'; clear h'
    refine st (v := (I x9)) (rv_idx Try.underlying67 ti3 Try.underlying3 rfl rfl hx10 Ap) (st (v := (I x9)) (rv_assign rfl) (w_end (q_then (c_seq (rg (st (v := (I Am)) (rv_move rfl) (w_end (q_then (c_blk (c_seq (rg ?_)))))))))))
    refine st (v := (B (Am == 1))) (rv_eql (a := Am) (b := 1) rfl rfl) (st (v := (B (Am == 1))) (rv_assign rfl) (w_end (q_then ?_)))
    refine cd_cond (Am == 1) rfl (fun hb11 => ?_) (fun hb11 => ?_)
    ·replace h := bif_t hb11 h
     refine rg (st (v := (I s5.1)) (rv_move rfl) (st (v := (I x9)) (rv_move rfl) (st (v := (I (w64 (s5.1 + x9)))) (rv_add (a := s5.1) (b := x9) rfl rfl) (st (v := (I (w64 (s5.1 + x9)))) (rv_assign rfl) (w_end (q_blk (q_blk ?_)))))))
     obtain rfl := Option.some.inj h
     exact .inl ⟨_, rfl, rfl, _, σ6, fr_join ⟨rfl, rfl, rfl, rfl, trivial⟩, rfl, H.sel' [] rfl rfl⟩
    ·replace h := bif_f hb11 h
     refine c_seq (rg (st (v := (B (Am == 2))) (rv_eql (a := Am) (b := 2) rfl rfl) (st (v := (B (Am == 2))) (rv_assign rfl) (w_end (q_then ?_)))))
     refine cd_cond (Am == 2) rfl (fun hb12 => ?_) (fun hb12 => ?_)
     ·replace h := bif_t hb12 h
      refine rg (st (v := (I s5.1)) (rv_move rfl) (st (v := (I x9)) (rv_move rfl) (st (v := (I (max s5.1 x9))) (rv_max rfl rfl) (st (v := (I (max s5.1 x9))) (rv_assign rfl) (w_end (q_blk (q_blk ?_)))))))
      obtain rfl := Option.some.inj h
      exact .inl ⟨_, rfl, rfl, _, σ6, fr_join ⟨rfl, rfl, rfl, rfl, trivial⟩, rfl, H.sel' [] rfl rfl⟩
     ·replace h := bif_f hb12 h
      refine c_seq (rg (st (v := (B (Am == 3))) (rv_eql (a := Am) (b := 3) rfl rfl) (st (v := (B (Am == 3))) (rv_assign rfl) (w_end (q_then ?_)))))
      refine cd_cond (Am == 3) rfl (fun hb13 => ?_) (fun hb13 => ?_)
      ·replace h := bif_t hb13 h
       refine rg (st (v := (I s5.1)) (rv_move rfl) (st (v := (I x9)) (rv_move rfl) (st (v := (I x9)) (rv_move rfl) (st (v := (I (w64 (x9 * x9)))) (rv_mul (a := x9) (b := x9) rfl rfl) (st (v := (I (w64 (s5.1 + (w64 (x9 * x9)))))) (rv_add (a := s5.1) (b := (w64 (x9 * x9))) rfl rfl) (st (v := (I (w64 (s5.1 + (w64 (x9 * x9)))))) (rv_assign rfl) (w_end (q_blk (q_blk ?_)))))))))
       obtain rfl := Option.some.inj h
       exact .inl ⟨_, rfl, rfl, _, σ6, fr_join ⟨rfl, rfl, rfl, rfl, trivial⟩, rfl, H.sel' [] rfl rfl⟩
      ·replace h := bif_f hb13 h
       refine c_seq (rg (st (v := (B (Am == 4))) (rv_eql (a := Am) (b := 4) rfl rfl) (st (v := (B (Am == 4))) (rv_assign rfl) (w_end (q_then ?_)))))
       refine cd_cond (Am == 4) rfl (fun hb14 => ?_) (fun hb14 => ?_)
       ·replace h := bif_t hb14 h
        refine rg (st (v := (I s5.1)) (rv_move rfl) (st (v := (I x9)) (rv_move rfl) (st (v := (I (min x9 1))) (rv_min rfl rfl) (st (v := (I (w64 (s5.1 + (min x9 1))))) (rv_add (a := s5.1) (b := (min x9 1)) rfl rfl) (st (v := (I (w64 (s5.1 + (min x9 1))))) (rv_assign rfl) (w_end (q_blk (q_blk ?_))))))))
        obtain rfl := Option.some.inj h
        exact .inl ⟨_, rfl, rfl, _, σ6, fr_join ⟨rfl, rfl, rfl, rfl, trivial⟩, rfl, H.sel' [] rfl rfl⟩
       ·replace h := bif_f hb14 h
        refine c_seq (rg (st (v := (I (-1))) (rv_assign rfl) (w_end (q_then (c_ret (q_blk_r (q_blk_r ?_)))))))
        obtain rfl := Option.some.inj h
        exact .inr (⟨_, rfl, rfl, _, σ6, fr_join ⟨rfl, trivial⟩, rfl, H.sel' [] rfl rfl⟩)
   ·clear hj
    have h := h'
    clear h' H
    rintro e a w (⟨t15, rfl, rfl, ρ, σ16, rfl, rfl, H⟩ | ⟨t17, rfl, rfl, ρ, σ18, rfl, rfl, H⟩)
    ·replace h := selim_l h
     refine q_then (rg (st (v := (I (w64 (s5.2 + 1)))) (rv_add (a := s5.2) (b := 1) rfl rfl) (st (v := (I (w64 (s5.2 + 1)))) (rv_move rfl) (w_end (q_then ?_)))))
     obtain rfl := Option.some.inj h
     exact ⟨_, rfl, _, σ16, fr_join ⟨rfl, rfl, rfl, rfl, trivial⟩, rfl, H.sel' [] rfl rfl⟩
    ·replace h := selim_r h
     refine q_then_r (q_then_r (q_blk_r ?_))
     obtain rfl := Option.some.inj h
     obtain rfl := hres _ rfl
     exact .inr (⟨_, rfl, rfl, _, σ18, fr_join ⟨rfl, trivial⟩, rfl, H.sel' [] rfl rfl⟩)
  ·replace h := bif_f hb7 h
   refine c_exit (q_then_x (q_then_x (q_blk_hit ?_)))
   obtain rfl := Option.some.inj h
   obtain rfl := hres _ rfl
   exact .inl ⟨_, rfl, rfl, _, σ6, fr_join ⟨rfl, trivial⟩, rfl, H.sel' [] rfl rfl⟩
 ·clear hj
  have h := h'
  clear h' H
  rintro e a w (⟨t19, rfl, rfl, ρ, σ20, rfl, rfl, H⟩ | ⟨t21, rfl, rfl, ρ, σ22, rfl, rfl, H⟩)
  ·replace h := selim_l h
   refine q_then (c_seq (rg (st (v := (I t19)) (rv_move rfl) (st (v := (I t19)) (rv_assign rfl) (w_end (q_then (c_ret ?_)))))))
   obtain rfl := Option.some.inj h
   exact fin_ret (v := (I t19)) (results_ok Try.results46 (res_tmp (v := (I t19)) rfl res_nil) rfl) ⟨rfl, rfl⟩ (H.sel' [] rfl rfl)
  ·replace h := selim_r h
   refine q_then_r ?_
   obtain rfl := Option.some.inj h
   exact fin_ret (v := (I t21)) (results_ok Try.results46 (res_tmp (v := (I t21)) rfl res_nil) rfl) ⟨rfl, rfl⟩ (H.sel' [] rfl rfl)

theorem c_impl_gapsOf {Aq : List Int} {Ar : List Int} (As : Aq.length = 4) (Au : Ar.length = 4) {r : (List Int)} (h : M.impl_gapsOf Aq Ar = some r) :
    Cal2 Try.prog 47 [(.agg (List.map I Aq).toArray), (.agg (List.map I Ar).toArray)] [] (fun n0 v L => v = (.agg (List.map I r).toArray) ∧ L = [] ∧ r.length = 4) := by
 refine cal2 (n := 29) Try.func47 rfl rfl rfl rfl ?_
 intro S0 σ0 n0 hn0 H
 unfold M.impl_gapsOf at h
 refine c_seq (rg (st_ex (ex_box (cs := (List.map I Aq)) H hn0 rfl rfl) wn ?_))
 rintro _ σ2 ⟨b1, rfl, H, -⟩
 refine st_ex (ex_box (cs := (List.map I Ar)) H hn0 rfl rfl) wn ?_
 rintro _ σ4 ⟨b3, rfl, H, -⟩
 refine st_ex (ex_alloc (cs := (List.map I (List.replicate 4 0))) H hn0 ti67 rfl) wn ?_
 rintro _ σ6 ⟨b5, rfl, H, -⟩
 refine w_end (q_then (c_seq (rg (st_ex (ex_alloc (cs := (List.map I (List.replicate 4 0))) H hn0 ti67 rfl) wn ?_))))
 rintro _ σ8 ⟨b7, rfl, H, -⟩
 refine w_end (q_then (c_seq (c_seq (rg (st (v := (I 0)) (rv_move rfl) (w_end (q_then ?_)))))))
 obtain ⟨o9, hj, h'⟩ := bind_some h
 clear h
 refine c_cut (fun e a w => e = .normal ∧ ∃ (ρ : Nat → Value) (σ : St), a = fr 29 (updL ρ [(4, (pt b5 0)), (5, (pt b7 0))]) ∧ w = σ.w ∧ Hp S0 σ0 σ [Ch.bx n0 b7 0 (List.map I o9) [] [], Ch.bx n0 b5 0 (List.map I (List.replicate 4 0)) [] []] ∧ o9.length = 4) ?_ ?_
 ·clear h'
  rename _ = some o9 => h
  refine c_blk (wp_loopM _ h (fun s10 a w => ∃ (ρ : Nat → Value) (σ : St), a = fr 29 (updL ρ [(2, (pt b1 0)), (3, (pt b3 0)), (4, (pt b5 0)), (5, (pt b7 0)), (7, (I s10.2))]) ∧ w = σ.w ∧ Hp S0 σ0 σ [Ch.bx n0 b7 0 (List.map I s10.1) [] [], Ch.bx n0 b1 0 (List.map I Aq) [] [], Ch.bx n0 b3 0 (List.map I Ar) [] [], Ch.bx n0 b5 0 (List.map I (List.replicate 4 0)) [] []] ∧ s10.1.length = 4) ⟨_, σ8, fr_join ⟨rfl, rfl, rfl, rfl, rfl, trivial⟩, rfl, H.sel' [0, 3, 2, 1] rfl rfl, rfl⟩ ?_)
  clear h H
  rintro s10 a w o ⟨ρ, σ11, rfl, rfl, H, hl12⟩ h hres
  refine c_seq (rg (st (v := (B (decide (s10.2 < 4)))) (rv_lss (a := s10.2) (b := 4) rfl rfl) (w_end (q_then (c_seq ?_)))))
  refine cd_cond (decide (s10.2 < 4)) rfl (fun hb13 => ?_) (fun hb13 => ?_)
  ·replace h := bif_t hb13 h
   refine c_skip (q_then (c_seq (c_blk (c_seq (rg (st (v := (I s10.2)) (rv_move rfl) (st (v := (I s10.2)) (rv_assign rfl) (w_end (q_then ?_)))))))))
   refine rgP (σ := σ11) 16 (by kernel_rfl) (by kernel_rfl) (by kernel_rfl) ?_
   refine sq (v := (I s10.2)) (rv_move rfl) (sq (v := (I s10.2)) (rv_move rfl) ?_)
   obtain ⟨x14, hx15, h'⟩ := bind_some h
   clear h
   have h := h'; clear h'
   have hl16 := gidx_lt hx15 As
   refine sq (v := (pt b1 (0 + s10.2.toNat * 1))) (rv_indexAddr_array Try.underlying67 ti3 rfl rfl hl16.1 hl16.2) ?_
   have hc17 := Hp.arrCell H 1 rfl hx15
   refine sq (v := (I x14)) (rv_load1 Try.underlying3 rfl rfl hc17) (sq (v := (I s10.2)) (rv_move rfl) ?_)
   obtain ⟨x18, hx19, h'⟩ := bind_some h
   clear h
   have h := h'; clear h'
   have hl20 := gidx_lt hx19 Au
   refine sq (v := (pt b3 (0 + s10.2.toNat * 1))) (rv_indexAddr_array Try.underlying67 ti3 rfl rfl hl20.1 hl20.2) ?_
   have hc21 := Hp.arrCell H 2 rfl hx19
   refine sq (v := (I x18)) (rv_load1 Try.underlying3 rfl rfl hc21) (sq (v := (I (w64 (x14 - x18)))) (rv_sub (a := x14) (b := x18) rfl rfl) (sq (v := (I s10.2)) (rv_move rfl) ?_))
   obtain ⟨x22, hx23, h'⟩ := bind_some h
   clear h
   have h := h'; clear h'
   have hl24 := gidx_lt hx23 Au
   refine sq (v := (pt b3 (0 + s10.2.toNat * 1))) (rv_indexAddr_array Try.underlying67 ti3 rfl rfl hl24.1 hl24.2) ?_
   have hc25 := Hp.arrCell H 2 rfl hx23
   refine sq (v := (I x22)) (rv_load1 Try.underlying3 rfl rfl hc25) (sq (v := (I s10.2)) (rv_move rfl) ?_)
   obtain ⟨x26, hx27, h'⟩ := bind_some h
   clear h
   have h := h'; clear h'
   have hl28 := gidx_lt hx27 As
   refine sq (v := (pt b1 (0 + s10.2.toNat * 1))) (rv_indexAddr_array Try.underlying67 ti3 rfl rfl hl28.1 hl28.2) ?_
   have hc29 := Hp.arrCell H 1 rfl hx27
   refine sq (v := (I x26)) (rv_load1 Try.underlying3 rfl rfl hc29) (sq (v := (I (w64 (x22 - x26)))) (rv_sub (a := x22) (b := x26) rfl rfl) (sq (v := (I (max (w64 (x14 - x18)) (w64 (x22 - x26))))) (rv_max rfl rfl) (sq_end ?_)))
   intro σ30 hm31
   replace H := H.grow (hm31.mono fun _ h => h); clear hm31
   obtain ⟨x32, hx33, h'⟩ := bind_some h
   clear h
   have h := h'; clear h'
   have hl34 := gidx_lt hx33 hl12
   refine st (v := (pt b7 (0 + s10.2.toNat * 1))) (rv_indexAddr_array Try.underlying67 ti3 rfl rfl hl34.1 hl34.2) ?_
   have hl35 := gidx_lt hx33 hl12
   refine st_exS (ex_store_box (k := s10.2.toNat * 1) (vs := [(I (max (w64 (x14 - x18)) (w64 (x22 - x26))))]) (cs' := (List.map I (s10.1.set s10.2.toNat (max (w64 (x14 - x18)) (w64 (x22 - x26)))))) H (i := 0) rfl ti3 rfl rfl rfl rfl rfl (by rw [List.length_map, hl12]; simp; omega) (by simp [plain]) (arr_set' _ _ _)) wn ?_
   rintro σ36 ⟨H, -⟩
   refine w_end (q_blk (q_then (rg (st (v := (I (w64 (s10.2 + 1)))) (rv_add (a := s10.2) (b := 1) rfl rfl) (st (v := (I (w64 (s10.2 + 1)))) (rv_move rfl) (w_end (q_then ?_)))))))
   obtain rfl := Option.some.inj h
   exact ⟨_, rfl, _, σ36, fr_join ⟨rfl, rfl, rfl, rfl, rfl, trivial⟩, rfl, H.sel' [0, 1, 2, 3] rfl rfl, (set_len hl12)⟩
  ·replace h := bif_f hb13 h
   refine c_exit (q_then_x (q_then_x (q_blk_hit ?_)))
   obtain rfl := Option.some.inj h
   obtain rfl := hres _ rfl
   exact ⟨rfl, _, σ11, fr_join ⟨rfl, rfl, trivial⟩, rfl, H.sel' [0, 3] rfl rfl, hl12⟩
 ·clear hj
  have h := h'
  clear h' H
  rintro e a w ⟨rfl, ρ, σ37, rfl, rfl, H, hl38⟩
  refine q_then (c_seq (rg ?_))
  have hc39 := H.cells 0 rfl
  refine st (v := (.agg (List.map I o9).toArray)) (rv_load (cs := (List.map I o9)) Try.underlying67 rfl ti67 rfl (by rw [List.length_map]; exact hl38) hc39) ?_
  refine st_exS (ex_store_box (k := 0) (cs := (List.map I (List.replicate 4 0))) (vs := (List.map I o9)) (cs' := (List.map I o9)) H (i := 1) rfl ti67 rfl rfl rfl rfl ((List.length_map _).trans hl38) (arr_fits (k := 4) hl38 rfl) (plain_ints _) (arr_all (k := 4) hl38 rfl)) wn ?_
  rintro σ40 ⟨H, -⟩
  refine w_end (q_then (c_ret ?_))
  obtain rfl := Option.some.inj h
  exact fin_ret (v := (.agg (List.map I o9).toArray)) (results_ok Try.results47 (res_cell rfl (run_cellRes (cs := (List.map I o9)) Try.underlying67 rfl ti67 (by rw [List.length_map]; exact hl38) (H.cells 0 rfl)) res_nil) rfl) ⟨rfl, rfl, hl38⟩ (H.sel' [] rfl rfl)

theorem c_impl_Distance {Am : Int} {Av : List Int} {Aw : List Int} {Ax : Option Addr} {Ay : Nat} {Az : Option Addr} {Ba : Nat} {r : Int} (h : M.impl_Distance Am Av Aw = some r) :
    Cal2 Try.prog 19 [(I Am), (Sl Ax Av Ay), (Sl Az Aw Ba)] [Ch.ro 0 (Sl Ax Av Ay) Av, Ch.ro 0 (Sl Az Aw Ba) Aw] (fun n0 v L => v = (I r) ∧ L = []) := by
 refine cal2 (n := 24) Try.func19 rfl rfl rfl rfl ?_
 intro S0 σ0 n0 hn0 H
 unfold M.impl_Distance at h
 refine c_seq (rg (st (v := (I 0)) (rv_assign rfl) (w_end (q_then (c_seq (c_seq ?_))))))
 obtain ⟨o1, hj, h'⟩ := bind_some h
 clear h
 refine c_cut (fun e a w => e = .normal ∧ ∃ (ρ : Nat → Value) (σ : St), a = fr 24 (updL ρ [(0, (I Am)), (1, (Sl Ax Av Ay)), (2, (Sl Az Aw Ba)), (14, (B o1))]) ∧ w = σ.w ∧ Hp S0 σ0 σ [Ch.ro 0 (Sl Ax Av Ay) Av, Ch.ro 0 (Sl Az Aw Ba) Aw]) ?_ ?_
 ·clear h'
  rename _ = some o1 => h
  refine rg (st (v := (Sl Ax Av Ay)) (rv_move rfl) ?_)
  obtain ⟨r2, hx3, h'⟩ := bind_some h
  clear h
  have h := h'; clear h'
  have hc4 := c_impl_ValidVector (Ac := Ax) (Ad := Ay) hx3
  refine st_call (cx_call hc4 (ent_f hc4.fn rfl) hn0 (H.sel' [0, 0, 1] rfl rfl : Hp S0 σ0 _ ([_] ++ _))) wn ?_
  rintro _ σ5 ⟨_, ⟨rfl, rfl⟩, H, -⟩
  replace H : Hp _ _ _ [_, _] := H
  refine st (v := (B (!r2))) (rv_not rfl) (st (v := (B (!r2))) (rv_move rfl) ?_)
  rcases Bool.eq_false_or_eq_true (!r2) with hb6 | hb6
  ·replace h := bif_t hb6 h
   refine st_skip (congrArg some hb6) (st_skip (congrArg some hb6) (st_skip (congrArg some hb6) (st (v := (B true)) (rv_pick_t (congrArg B hb6) rfl) (w_end ?_))))
   obtain rfl := Option.some.inj h
   exact ⟨rfl, _, σ5, fr_join ⟨rfl, rfl, rfl, rfl, trivial⟩, rfl, H.sel' [0, 1] rfl rfl⟩
  ·replace h := bif_f hb6 h
   refine st_g (v := (Sl Az Aw Ba)) (congrArg some hb6) (rv_move rfl) ?_
   obtain ⟨r7, hx8, h'⟩ := bind_some h
   clear h
   have h := h'; clear h'
   have hc9 := c_impl_ValidVector (Ac := Az) (Ad := Ba) hx8
   refine st_call (cx_call hc9 (ent_f hc9.fn rfl) hn0 (H.sel' [1, 0, 1] rfl rfl : Hp S0 σ0 _ ([_] ++ _))) (wanted_yes rfl (by exact (congrArg some hb6))) ?_
   rintro _ σ10 ⟨_, ⟨rfl, rfl⟩, H, -⟩
   replace H : Hp _ _ _ [_, _] := H
   refine st_g (v := (B (!r7))) (congrArg some hb6) (rv_not rfl) (st (v := (B (!r7))) (rv_pick_f (congrArg B hb6) rfl) (w_end ?_))
   obtain rfl := Option.some.inj h
   exact ⟨rfl, _, σ10, fr_join ⟨rfl, rfl, rfl, rfl, trivial⟩, rfl, H.sel' [0, 1] rfl rfl⟩
 ·clear hj
  have h := h'
  clear h' H
  rintro e a w ⟨rfl, ρ, σ11, rfl, rfl, H⟩
  refine q_then ?_
  refine cd_cond o1 rfl (fun hb12 => ?_) (fun hb12 => ?_)
  ·replace h := bif_t hb12 h
   refine c_seq (rg (st (v := (I (-1))) (rv_assign rfl) (w_end (q_then (c_ret (q_then_r ?_))))))
   obtain rfl := Option.some.inj h
   exact fin_ret (v := (I (-1))) (results_ok Try.results19 (res_tmp (v := (I (-1))) rfl res_nil) rfl) ⟨rfl, rfl⟩ (H.sel' [] rfl rfl)
  ·replace h := bif_f hb12 h
   refine c_skip (q_then (c_seq ?_))
   obtain ⟨xs13, hx14, h'⟩ := bind_some h
   clear h
   have h := h'; clear h'
   obtain ⟨hl18, hq19⟩ := garr_some hx14
   clear hx14 hq19
   obtain ⟨b15, o16, rfl, hc17⟩ := (H.ro 0 rfl).arr (Nat.lt_of_lt_of_le (by decide) hl18)
   obtain ⟨xs20, hx21, h'⟩ := bind_some h
   clear h
   have h := h'; clear h'
   obtain ⟨hl25, hq26⟩ := garr_some hx21
   clear hx21 hq26
   obtain ⟨b22, o23, rfl, hc24⟩ := (H.ro 1 rfl).arr (Nat.lt_of_lt_of_le (by decide) hl25)
   obtain ⟨r27, hx28, h'⟩ := bind_some h
   clear h
   have h := h'; clear h'
   have hc29 := c_impl_gapsOf (by rw [List.length_take]; have := hl18; omega) (by rw [List.length_take]; have := hl25; omega) hx28
   have Hs := H
   refine rg2 (σ := σ11) (Nm := Unit) 8 [7] [[false], [true]] [[(0, 0), (1, 1)], [(0, 0)], [(0, 0)], [(0, 0)], [(0, 0)], [(0, 0)], [(0, 0)], [(0, 1)]] 1 [fun _ => fun σm => Hp S0 σ0 σm [Ch.ro 0 (Sl (some ⟨b15, o16, none⟩) Av Ay) Av, Ch.ro 0 (Sl (some ⟨b22, o23, none⟩) Aw Ba) Aw] ∧ Md (cov []) σ11 σm, fun _ => fun σm => Hp S0 σ0 σm [Ch.ro 0 (Sl (some ⟨b15, o16, none⟩) Av Ay) Av, Ch.ro 0 (Sl (some ⟨b22, o23, none⟩) Aw Ba) Aw] ∧ Md (cov []) σ11 σm ∧ r27.length = 4] [fun _ => (I Am), fun _ => (Sl (some ⟨b15, o16, none⟩) Av Ay), fun _ => (.pointer (some ⟨b15, o16, none⟩)), fun _ => (.agg (List.map I (List.take 4 Av)).toArray), fun _ => (Sl (some ⟨b22, o23, none⟩) Aw Ba), fun _ => (.pointer (some ⟨b22, o23, none⟩)), fun _ => (.agg (List.map I (List.take 4 Aw)).toArray), fun _ => (.agg (List.map I r27).toArray)] () (by kernel_rfl) (by kernel_rfl) ?_ ?_ ?_
   ·intro σm m0
    exact ⟨H.grow (m0.mono fun _ h => h.elim), m0⟩
   ·refine ac rfl (by
      intro k _nm ρ σm hJ hoff hdep
      have e0 := look_off (N := 24) (hoff 0 rfl) rfl
      exact dp_v (v := (I Am)) wn (rv_move e0) rfl hJ) ?_
    refine ac rfl (by
      intro k _nm ρ σm hJ hoff hdep
      have e1 := look_off (N := 24) (hoff 1 rfl) rfl
      exact dp_v (v := (Sl (some ⟨b15, o16, none⟩) Av Ay)) wn (rv_move e1) rfl hJ) ?_
    refine ac rfl (by
      intro k _nm ρ σm hJ hoff hdep
      have e16 := hdep 1 rfl rfl 16 rfl
      exact dp_v (v := (.pointer (some ⟨b15, o16, none⟩))) wn (rv_arrPtr Try.underlying67 e16 hl18) rfl hJ) ?_
    refine all_cons (by
      refine ⟨?_, ?_⟩
      ·intro _nm ρ σm hJ hoff hdep
       have e17 := hdep 2 rfl rfl 17 rfl
       obtain ⟨H, m⟩ := id hJ
       replace hc17 := (Hs.ro 0 rfl).arr_md hc17 m
       exact dp_v (v := (.agg (List.map I (List.take 4 Av)).toArray)) wn (rv_load (cs := List.map I (List.take 4 Av)) Try.underlying67 rfl ti67 e17 (by rw [List.length_map, List.length_take]; have := hl18; omega) (arr_take hc17)) rfl hJ
      trivial) ?_
    refine ac rfl (by
      intro k _nm ρ σm hJ hoff hdep
      have e2 := look_off (N := 24) (hoff 2 rfl) rfl
      exact dp_v (v := (Sl (some ⟨b22, o23, none⟩) Aw Ba)) wn (rv_move e2) rfl hJ) ?_
    refine ac rfl (by
      intro k _nm ρ σm hJ hoff hdep
      have e19 := hdep 4 rfl rfl 19 rfl
      exact dp_v (v := (.pointer (some ⟨b22, o23, none⟩))) wn (rv_arrPtr Try.underlying67 e19 hl25) rfl hJ) ?_
    refine all_cons (by
      refine ⟨?_, ?_⟩
      ·intro _nm ρ σm hJ hoff hdep
       have e20 := hdep 5 rfl rfl 20 rfl
       obtain ⟨H, m⟩ := id hJ
       replace hc24 := (Hs.ro 1 rfl).arr_md hc24 m
       exact dp_v (v := (.agg (List.map I (List.take 4 Aw)).toArray)) wn (rv_load (cs := List.map I (List.take 4 Aw)) Try.underlying67 rfl ti67 e20 (by rw [List.length_map, List.length_take]; have := hl25; omega) (arr_take hc24)) rfl hJ
      trivial) ?_
    refine all_cons (by
      refine ⟨?_, ?_⟩
      ·intro _nm ρ σm hJ hoff hdep
       have e18 : look 24 ρ 18 = (.agg (List.map I (List.take 4 Av)).toArray) := hdep 3 rfl rfl 18 rfl
       have e21 : look 24 ρ 21 = (.agg (List.map I (List.take 4 Aw)).toArray) := hdep 6 rfl rfl 21 rfl
       obtain ⟨H, m⟩ := id hJ
       refine dp_cx wn (cx_call hc29 (ent_f hc29.fn (by show [look 24 ρ 18, look 24 ρ 21] = _; rw [e18, e21])) hn0 (H.sel' [0, 1] rfl rfl : Hp S0 σ0 _ ([] ++ _))) ?_
       rintro _ σq ⟨_, ⟨rfl, rfl, hl30⟩, H2, m2⟩
       exact ⟨_, (), rfl, rfl, ⟨H2.sel' [0, 1] rfl rfl, m.comp0 m2, hl30⟩, stab [0, 1, 2, 3, 4, 5, 6] (by kernel_rfl) ⟨rfl, rfl, rfl, rfl, rfl, rfl, rfl, trivial⟩⟩
      trivial) ?_
    exact all_nil
   ·intro _nm ρ σ31 hJ hoff hrel
    have e15 := hrel 0 rfl 15 rfl
    have e22 := hrel 7 rfl 22 rfl
    obtain ⟨H, -, hl30⟩ := (show Hp S0 σ0 σ31 [Ch.ro 0 (Sl (some ⟨b15, o16, none⟩) Av Ay) Av, Ch.ro 0 (Sl (some ⟨b22, o23, none⟩) Aw Ba) Aw] ∧ Md (cov []) σ11 σ31 ∧ r27.length = 4 from hJ)
    clear hJ Hs
    rw [fr_lookL (L := [(15, (I Am)), (22, (.agg (List.map I r27).toArray))]) ⟨e15, e22, trivial⟩]
    clear hoff hrel e15 e22
    obtain ⟨r32, hx33, h'⟩ := bind_some h
    clear h
    have h := h'; clear h'
    have hc34 := c_impl_distanceOf hl30 hx33
    refine st_call (cx_call hc34 (ent_f hc34.fn rfl) hn0 (H.sel' [0, 1] rfl rfl : Hp S0 σ0 _ ([] ++ _))) wn ?_
    rintro _ σ35 ⟨_, ⟨rfl, rfl⟩, H, -⟩
    replace H : Hp _ _ _ [_, _] := H
    refine st (v := (I r32)) (rv_assign rfl) (w_end (q_then (c_ret ?_)))
    obtain rfl := Option.some.inj h
    exact fin_ret (v := (I r32)) (results_ok Try.results19 (res_tmp (v := (I r32)) rfl res_nil) rfl) ⟨rfl, rfl⟩ (H.sel' [] rfl rfl)

theorem c_slices_Clone_impl_Item_impl_Item {Bb : List (Int × (List Int) × Int)} {Bc : Option Addr} {Bd : Nat} {r : (List (Int × (List Int) × Int))} (h : M.slices_Clone_impl_Item_impl_Item Bb = some r) :
    Cal2 Try.prog 86 [(Sl Bc Bb Bd)] [Ch.ro 0 (Sl Bc Bb Bd) Bb] (fun n0 v L => ∃ (az1 : Option Addr), ∃ (cz2 : Nat), v = (Sl az1 r cz2) ∧ L = [Ch.own n0 0 (Sl az1 r cz2) r]) := by
 refine cal2 (n := 8) Try.func86 rfl rfl rfl rfl ?_
 intro S0 σ0 n0 hn0 H
 unfold M.slices_Clone_impl_Item_impl_Item at h
 refine c_seq (rg (st (v := (.slice none 0 0)) (rv_assign rfl) (w_end (q_then (c_seq (c_seq (rg (st (v := (Sl Bc Bb Bd)) (rv_move rfl) (st (v := (B Bc.isNone)) (rv_nilS Try.underlying23 rfl rfl) (w_end (q_then ?_)))))))))))
 refine cd_cond Bc.isNone rfl (fun hb1 => ?_) (fun hb1 => ?_)
 ·have hq := RS.nilOf hb1 (H.ro 0 rfl)
  subst hq
  replace h : some [] = some r := by simpa [gapp] using h
  refine c_seq (rg (st (v := (.slice none 0 0)) (rv_assign rfl) (w_end (q_then (c_ret (q_then_r ?_))))))
  replace H := H.nilOwn (Int × (List Int) × Int) n0 0
  obtain rfl := Option.some.inj h
  exact fin_ret (v := (.slice none 0 0)) (results_ok Try.results86 (res_tmp (v := (.slice none 0 0)) rfl res_nil) rfl) ⟨none, 0, rfl, rfl⟩ (H.sel' [0] rfl rfl)
 ·refine c_skip ?_
  refine q_then (c_seq (rg ?_))
  refine st_ex (ex_buildSlice (el := n0) (xs := ([] : List (Int × (List Int) × Int))) (ps := []) (cs := []) H hn0 Try.underlying23 ti34 rfl rfl (by kernel_rfl) (.nil) rfl) wn ?_
  rintro _ σ3 ⟨b2, rfl, H, -⟩
  refine st (v := (Sl Bc Bb Bd)) (rv_move rfl) ?_
  replace H := H.ownLow 0 n0 0 rfl (Nat.le_refl _) (Nat.zero_le _)
  obtain ⟨xs4, hx5, h'⟩ := bind_some h
  clear h
  have h := h'; clear h'
  refine st_ex (ex_append H (i := 0) rfl Try.underlying23 Try.underlying23 ti34 rfl rfl (by decide) (H.ro 1 rfl).rd hx5 hn0 rfl rfl) wn ?_
  rintro _ σ8 ⟨a6, c7, rfl, H, -⟩
  refine st (v := (Sl a6 xs4 c7)) (rv_assign rfl) (w_end (q_then (c_ret ?_)))
  obtain rfl := Option.some.inj h
  exact fin_ret (v := (Sl a6 xs4 c7)) (results_ok Try.results86 (res_tmp (v := (Sl a6 xs4 c7)) rfl res_nil) rfl) ⟨a6, c7, rfl, rfl⟩ (H.sel' [0] rfl rfl)

theorem c_math_bits_Len32 {Af : Int}  {r : Int} (h : M.math_bits_Len32 Af = some r) :
    Cal2 Try.prog 120 [(.int .u32 Af)] [] (fun n0 v L => v = (I r) ∧ L = []) := by
 refine cal2 (n := 19) Try.func120 rfl rfl rfl rfl ?_
 intro S0 σ0 n0 hn0 H
 unfold M.math_bits_Len32 at h
 refine c_seq (rg (st (v := (I 0)) (rv_assign rfl) (w_end (q_then (c_seq (c_seq (rg (st (v := (.int .u32 Af)) (rv_move rfl) (st (v := (B (decide (65536 ≤ Af)))) (rvk_geq (k := .u32) (a := Af) (b := 65536) rfl rfl) (w_end (q_then ?_)))))))))))
 obtain ⟨o1, hj, h'⟩ := bind_some h
 clear h
 refine c_cut (fun e a w => e = .normal ∧ ∃ (ρ : Nat → Value) (σ : St), a = fr 19 (updL ρ [(0, (.int .u32 o1.1)), (2, (I o1.2))]) ∧ w = σ.w ∧ Hp S0 σ0 σ []) ?_ ?_
 ·clear h'
  rename _ = some o1 => h
  refine cd_cond (decide (65536 ≤ Af)) rfl (fun hb2 => ?_) (fun hb2 => ?_)
  ·replace h := bif_t hb2 h
   refine c_seq (rg (st (v := (.int .u32 Af)) (rv_move rfl) ?_))
   refine st (v := (.int .u32 (gshr .u32 Af 16))) (rvk_shr (k := .u32) (k' := .u64) (a := Af) (b := 16) rfl rfl (by decide)) ?_
   refine st (v := (.int .u32 (gshr .u32 Af 16))) (rv_assign rfl) (w_end (q_then (rg (st (v := (I 16)) (rv_assign rfl) (w_end ?_)))))
   obtain rfl := Option.some.inj h
   exact ⟨rfl, _, σ0, fr_join ⟨rfl, rfl, trivial⟩, rfl, H.sel' [] rfl rfl⟩
  ·replace h := bif_f hb2 h
   refine c_skip ?_
   obtain rfl := Option.some.inj h
   exact ⟨rfl, _, σ0, fr_join ⟨rfl, rfl, trivial⟩, rfl, H.sel' [] rfl rfl⟩
 ·clear hj
  have h := h'
  clear h' H
  rintro e a w ⟨rfl, ρ, σ3, rfl, rfl, H⟩
  refine q_then (c_seq (c_seq (rg (st (v := (.int .u32 o1.1)) (rv_move rfl) (st (v := (B (decide (256 ≤ o1.1)))) (rvk_geq (k := .u32) (a := o1.1) (b := 256) rfl rfl) (w_end (q_then ?_)))))))
  obtain ⟨o4, hj, h'⟩ := bind_some h
  clear h
  refine c_cut (fun e a w => e = .normal ∧ ∃ (ρ : Nat → Value) (σ : St), a = fr 19 (updL ρ [(0, (.int .u32 o4.1)), (2, (I o4.2))]) ∧ w = σ.w ∧ Hp S0 σ0 σ []) ?_ ?_
  ·clear h'
   rename _ = some o4 => h
   refine cd_cond (decide (256 ≤ o1.1)) rfl (fun hb5 => ?_) (fun hb5 => ?_)
   ·replace h := bif_t hb5 h
    refine c_seq (rg (st (v := (.int .u32 o1.1)) (rv_move rfl) ?_))
    refine st (v := (.int .u32 (gshr .u32 o1.1 8))) (rvk_shr (k := .u32) (k' := .u64) (a := o1.1) (b := 8) rfl rfl (by decide)) ?_
    refine st (v := (.int .u32 (gshr .u32 o1.1 8))) (rv_assign rfl) (w_end (q_then (rg (st (v := (I o1.2)) (rv_move rfl) (st (v := (I (w64 (o1.2 + 8)))) (rv_add (a := o1.2) (b := 8) rfl rfl) (st (v := (I (w64 (o1.2 + 8)))) (rv_assign rfl) (w_end ?_)))))))
    obtain rfl := Option.some.inj h
    exact ⟨rfl, _, σ3, fr_join ⟨rfl, rfl, trivial⟩, rfl, H.sel' [] rfl rfl⟩
   ·replace h := bif_f hb5 h
    refine c_skip ?_
    obtain rfl := Option.some.inj h
    exact ⟨rfl, _, σ3, fr_join ⟨rfl, rfl, trivial⟩, rfl, H.sel' [] rfl rfl⟩
  ·clear hj
   have h := h'
   clear h' H
   rintro e a w ⟨rfl, ρ, σ6, rfl, rfl, H⟩
   refine q_then (c_seq (rg (st (v := (I o4.2)) (rv_move rfl) (st (v := (.int .u32 o4.1)) (rv_move rfl) (st (v := (.int .u8 (wk .u8 o4.1))) (rvk_conv (k := .u32) (k' := .u8) (a := o4.1) Try.underlying152 Try.underlying5 rfl) ?_)))))
   obtain ⟨x7, hx8, h'⟩ := bind_some h
   clear h
   have h := h'; clear h'
   refine st (v := (.int .u8 x7)) (rv_sidx (bs := [0, 1, 2, 2, 3, 3, 3, 3, 4, 4, 4, 4, 4, 4, 4, 4, 5, 5, 5, 5, 5, 5, 5, 5, 5, 5, 5, 5, 5, 5, 5, 5, 6, 6, 6, 6, 6, 6, 6, 6, 6, 6, 6, 6, 6, 6, 6, 6, 6, 6, 6, 6, 6, 6, 6, 6, 6, 6, 6, 6, 6, 6, 6, 6, 7, 7, 7, 7, 7, 7, 7, 7, 7, 7, 7, 7, 7, 7, 7, 7, 7, 7, 7, 7, 7, 7, 7, 7, 7, 7, 7, 7, 7, 7, 7, 7, 7, 7, 7, 7, 7, 7, 7, 7, 7, 7, 7, 7, 7, 7, 7, 7, 7, 7, 7, 7, 7, 7, 7, 7, 7, 7, 7, 7, 7, 7, 7, 7, 8, 8, 8, 8, 8, 8, 8, 8, 8, 8, 8, 8, 8, 8, 8, 8, 8, 8, 8, 8, 8, 8, 8, 8, 8, 8, 8, 8, 8, 8, 8, 8, 8, 8, 8, 8, 8, 8, 8, 8, 8, 8, 8, 8, 8, 8, 8, 8, 8, 8, 8, 8, 8, 8, 8, 8, 8, 8, 8, 8, 8, 8, 8, 8, 8, 8, 8, 8, 8, 8, 8, 8, 8, 8, 8, 8, 8, 8, 8, 8, 8, 8, 8, 8, 8, 8, 8, 8, 8, 8, 8, 8, 8, 8, 8, 8, 8, 8, 8, 8, 8, 8, 8, 8, 8, 8, 8, 8, 8, 8, 8, 8, 8, 8, 8, 8, 8, 8, 8, 8, 8, 8, 8, 8, 8, 8, 8, 8]) Try.underlying9 rfl rfl hx8) (st (v := (I (wk .i64 x7))) (rvk_conv (k := .u8) (k' := .i64) (a := x7) Try.underlying5 Try.underlying3 rfl) (st (v := (I (w64 (o4.2 + (wk .i64 x7))))) (rv_add (a := o4.2) (b := (wk .i64 x7)) rfl rfl) (st (v := (I (w64 (o4.2 + (wk .i64 x7))))) (rv_assign rfl) (w_end (q_then (c_ret ?_))))))
   obtain rfl := Option.some.inj h
   exact fin_ret (v := (I (w64 (o4.2 + (wk .i64 x7))))) (results_ok Try.results120 (res_tmp (v := (I (w64 (o4.2 + (wk .i64 x7))))) rfl res_nil) rfl) ⟨rfl, rfl⟩ (H.sel' [] rfl rfl)

theorem c_math_bits_Len64 {Af : Int}  {r : Int} (h : M.math_bits_Len64 Af = some r) :
    Cal2 Try.prog 121 [(.int .u64 Af)] [] (fun n0 v L => v = (I r) ∧ L = []) := by
 refine cal2 (n := 25) Try.func121 rfl rfl rfl rfl ?_
 intro S0 σ0 n0 hn0 H
 unfold M.math_bits_Len64 at h
 refine c_seq (rg (st (v := (I 0)) (rv_assign rfl) (w_end (q_then (c_seq (c_seq (rg (st (v := (.int .u64 Af)) (rv_move rfl) (st (v := (B (decide (4294967296 ≤ Af)))) (rvk_geq (k := .u64) (a := Af) (b := 4294967296) rfl rfl) (w_end (q_then ?_)))))))))))
 obtain ⟨o1, hj, h'⟩ := bind_some h
 clear h
 refine c_cut (fun e a w => e = .normal ∧ ∃ (ρ : Nat → Value) (σ : St), a = fr 25 (updL ρ [(0, (.int .u64 o1.1)), (2, (I o1.2))]) ∧ w = σ.w ∧ Hp S0 σ0 σ []) ?_ ?_
 ·clear h'
  rename _ = some o1 => h
  refine cd_cond (decide (4294967296 ≤ Af)) rfl (fun hb2 => ?_) (fun hb2 => ?_)
  ·replace h := bif_t hb2 h
   refine c_seq (rg (st (v := (.int .u64 Af)) (rv_move rfl) ?_))
   refine st (v := (.int .u64 (gshr .u64 Af 32))) (rvk_shr (k := .u64) (k' := .u64) (a := Af) (b := 32) rfl rfl (by decide)) ?_
   refine st (v := (.int .u64 (gshr .u64 Af 32))) (rv_assign rfl) (w_end (q_then (rg (st (v := (I 32)) (rv_assign rfl) (w_end ?_)))))
   obtain rfl := Option.some.inj h
   exact ⟨rfl, _, σ0, fr_join ⟨rfl, rfl, trivial⟩, rfl, H.sel' [] rfl rfl⟩
  ·replace h := bif_f hb2 h
   refine c_skip ?_
   obtain rfl := Option.some.inj h
   exact ⟨rfl, _, σ0, fr_join ⟨rfl, rfl, trivial⟩, rfl, H.sel' [] rfl rfl⟩
 ·clear hj
  have h := h'
  clear h' H
  rintro e a w ⟨rfl, ρ, σ3, rfl, rfl, H⟩
  refine q_then (c_seq (c_seq (rg (st (v := (.int .u64 o1.1)) (rv_move rfl) (st (v := (B (decide (65536 ≤ o1.1)))) (rvk_geq (k := .u64) (a := o1.1) (b := 65536) rfl rfl) (w_end (q_then ?_)))))))
  obtain ⟨o4, hj, h'⟩ := bind_some h
  clear h
  refine c_cut (fun e a w => e = .normal ∧ ∃ (ρ : Nat → Value) (σ : St), a = fr 25 (updL ρ [(0, (.int .u64 o4.1)), (2, (I o4.2))]) ∧ w = σ.w ∧ Hp S0 σ0 σ []) ?_ ?_
  ·clear h'
   rename _ = some o4 => h
   refine cd_cond (decide (65536 ≤ o1.1)) rfl (fun hb5 => ?_) (fun hb5 => ?_)
   ·replace h := bif_t hb5 h
    refine c_seq (rg (st (v := (.int .u64 o1.1)) (rv_move rfl) ?_))
    refine st (v := (.int .u64 (gshr .u64 o1.1 16))) (rvk_shr (k := .u64) (k' := .u64) (a := o1.1) (b := 16) rfl rfl (by decide)) ?_
    refine st (v := (.int .u64 (gshr .u64 o1.1 16))) (rv_assign rfl) (w_end (q_then (rg (st (v := (I o1.2)) (rv_move rfl) (st (v := (I (w64 (o1.2 + 16)))) (rv_add (a := o1.2) (b := 16) rfl rfl) (st (v := (I (w64 (o1.2 + 16)))) (rv_assign rfl) (w_end ?_)))))))
    obtain rfl := Option.some.inj h
    exact ⟨rfl, _, σ3, fr_join ⟨rfl, rfl, trivial⟩, rfl, H.sel' [] rfl rfl⟩
   ·replace h := bif_f hb5 h
    refine c_skip ?_
    obtain rfl := Option.some.inj h
    exact ⟨rfl, _, σ3, fr_join ⟨rfl, rfl, trivial⟩, rfl, H.sel' [] rfl rfl⟩
  ·clear hj
   have h := h'
   clear h' H
   rintro e a w ⟨rfl, ρ, σ6, rfl, rfl, H⟩
   refine q_then (c_seq (c_seq (rg (st (v := (.int .u64 o4.1)) (rv_move rfl) (st (v := (B (decide (256 ≤ o4.1)))) (rvk_geq (k := .u64) (a := o4.1) (b := 256) rfl rfl) (w_end (q_then ?_)))))))
   obtain ⟨o7, hj, h'⟩ := bind_some h
   clear h
   refine c_cut (fun e a w => e = .normal ∧ ∃ (ρ : Nat → Value) (σ : St), a = fr 25 (updL ρ [(0, (.int .u64 o7.1)), (2, (I o7.2))]) ∧ w = σ.w ∧ Hp S0 σ0 σ []) ?_ ?_
   ·clear h'
    rename _ = some o7 => h
    refine cd_cond (decide (256 ≤ o4.1)) rfl (fun hb8 => ?_) (fun hb8 => ?_)
    ·replace h := bif_t hb8 h
     refine c_seq (rg (st (v := (.int .u64 o4.1)) (rv_move rfl) ?_))
     refine st (v := (.int .u64 (gshr .u64 o4.1 8))) (rvk_shr (k := .u64) (k' := .u64) (a := o4.1) (b := 8) rfl rfl (by decide)) ?_
     refine st (v := (.int .u64 (gshr .u64 o4.1 8))) (rv_assign rfl) (w_end (q_then (rg (st (v := (I o4.2)) (rv_move rfl) (st (v := (I (w64 (o4.2 + 8)))) (rv_add (a := o4.2) (b := 8) rfl rfl) (st (v := (I (w64 (o4.2 + 8)))) (rv_assign rfl) (w_end ?_)))))))
     obtain rfl := Option.some.inj h
     exact ⟨rfl, _, σ6, fr_join ⟨rfl, rfl, trivial⟩, rfl, H.sel' [] rfl rfl⟩
    ·replace h := bif_f hb8 h
     refine c_skip ?_
     obtain rfl := Option.some.inj h
     exact ⟨rfl, _, σ6, fr_join ⟨rfl, rfl, trivial⟩, rfl, H.sel' [] rfl rfl⟩
   ·clear hj
    have h := h'
    clear h' H
    rintro e a w ⟨rfl, ρ, σ9, rfl, rfl, H⟩
    refine q_then (c_seq (rg (st (v := (I o7.2)) (rv_move rfl) (st (v := (.int .u64 o7.1)) (rv_move rfl) (st (v := (.int .u8 (wk .u8 o7.1))) (rvk_conv (k := .u64) (k' := .u8) (a := o7.1) Try.underlying154 Try.underlying5 rfl) ?_)))))
    obtain ⟨x10, hx11, h'⟩ := bind_some h
    clear h
    have h := h'; clear h'
    refine st (v := (.int .u8 x10)) (rv_sidx (bs := [0, 1, 2, 2, 3, 3, 3, 3, 4, 4, 4, 4, 4, 4, 4, 4, 5, 5, 5, 5, 5, 5, 5, 5, 5, 5, 5, 5, 5, 5, 5, 5, 6, 6, 6, 6, 6, 6, 6, 6, 6, 6, 6, 6, 6, 6, 6, 6, 6, 6, 6, 6, 6, 6, 6, 6, 6, 6, 6, 6, 6, 6, 6, 6, 7, 7, 7, 7, 7, 7, 7, 7, 7, 7, 7, 7, 7, 7, 7, 7, 7, 7, 7, 7, 7, 7, 7, 7, 7, 7, 7, 7, 7, 7, 7, 7, 7, 7, 7, 7, 7, 7, 7, 7, 7, 7, 7, 7, 7, 7, 7, 7, 7, 7, 7, 7, 7, 7, 7, 7, 7, 7, 7, 7, 7, 7, 7, 7, 8, 8, 8, 8, 8, 8, 8, 8, 8, 8, 8, 8, 8, 8, 8, 8, 8, 8, 8, 8, 8, 8, 8, 8, 8, 8, 8, 8, 8, 8, 8, 8, 8, 8, 8, 8, 8, 8, 8, 8, 8, 8, 8, 8, 8, 8, 8, 8, 8, 8, 8, 8, 8, 8, 8, 8, 8, 8, 8, 8, 8, 8, 8, 8, 8, 8, 8, 8, 8, 8, 8, 8, 8, 8, 8, 8, 8, 8, 8, 8, 8, 8, 8, 8, 8, 8, 8, 8, 8, 8, 8, 8, 8, 8, 8, 8, 8, 8, 8, 8, 8, 8, 8, 8, 8, 8, 8, 8, 8, 8, 8, 8, 8, 8, 8, 8, 8, 8, 8, 8, 8, 8, 8, 8, 8, 8, 8, 8]) Try.underlying9 rfl rfl hx11) (st (v := (I (wk .i64 x10))) (rvk_conv (k := .u8) (k' := .i64) (a := x10) Try.underlying5 Try.underlying3 rfl) (st (v := (I (w64 (o7.2 + (wk .i64 x10))))) (rv_add (a := o7.2) (b := (wk .i64 x10)) rfl rfl) (st (v := (I (w64 (o7.2 + (wk .i64 x10))))) (rv_assign rfl) (w_end (q_then (c_ret ?_))))))
    obtain rfl := Option.some.inj h
    exact fin_ret (v := (I (w64 (o7.2 + (wk .i64 x10))))) (results_ok Try.results121 (res_tmp (v := (I (w64 (o7.2 + (wk .i64 x10))))) rfl res_nil) rfl) ⟨rfl, rfl⟩ (H.sel' [] rfl rfl)

theorem c_math_bits_Len {Af : Int}  {r : Int} (h : M.math_bits_Len Af = some r) :
    Cal2 Try.prog 105 [(.int .u64 Af)] [] (fun n0 v L => v = (I r) ∧ L = []) := by
 refine cal2 (n := 8) Try.func105 rfl rfl rfl rfl ?_
 intro S0 σ0 n0 hn0 H
 unfold M.math_bits_Len at h
 refine c_seq (rg (st (v := (I 0)) (rv_assign rfl) (w_end (q_then (c_seq (cd_false rfl ?_))))))
 refine c_skip (q_then (c_seq (rg (st (v := (.int .u64 Af)) (rv_move rfl) ?_))))
 obtain ⟨r1, hx2, h'⟩ := bind_some h
 clear h
 have h := h'; clear h'
 have hc3 := c_math_bits_Len64 hx2
 refine st_call (cx_call hc3 (ent_f hc3.fn rfl) hn0 (H.sel' [] rfl rfl : Hp S0 σ0 _ ([] ++ _))) wn ?_
 rintro _ σ4 ⟨_, ⟨rfl, rfl⟩, H, -⟩
 replace H : Hp _ _ _ [] := H
 refine st (v := (I r1)) (rv_assign rfl) (w_end (q_then (c_ret ?_)))
 obtain rfl := Option.some.inj h
 exact fin_ret (v := (I r1)) (results_ok Try.results105 (res_tmp (v := (I r1)) rfl res_nil) rfl) ⟨rfl, rfl⟩ (H.sel' [] rfl rfl)

theorem c_slices_nextPowerOfTwo {Be : Int}  {r : Int} (h : M.slices_nextPowerOfTwo Be = some r) :
    Cal2 Try.prog 125 [(I Be)] [] (fun n0 v L => v = (.int .u64 r) ∧ L = []) := by
 refine cal2 (n := 7) Try.func125 rfl rfl rfl rfl ?_
 intro S0 σ0 n0 hn0 H
 unfold M.slices_nextPowerOfTwo at h
 refine c_seq (rg (st (v := (.int .u64 0)) (rv_assign rfl) (w_end (q_then (c_seq (rg (st (v := (I Be)) (rv_move rfl) (st (v := (.int .u64 (wk .u64 Be))) (rvk_conv (k := .i64) (k' := .u64) (a := Be) Try.underlying3 Try.underlying132 rfl) ?_))))))))
 obtain ⟨r1, hx2, h'⟩ := bind_some h
 clear h
 have h := h'; clear h'
 have hc3 := c_math_bits_Len hx2
 refine st_call (cx_call hc3 (ent_f hc3.fn rfl) hn0 (H.sel' [] rfl rfl : Hp S0 σ0 _ ([] ++ _))) wn ?_
 rintro _ σ4 ⟨_, ⟨rfl, rfl⟩, H, -⟩
 replace H : Hp _ _ _ [] := H
 obtain ⟨q5, hx6, h'⟩ := bind_some h
 clear h
 have h := h'; clear h'
 refine st (v := (.int .u64 q5)) (rvk_shlG (k := .u64) (k' := .i64) (a := 1) (b := r1) hx6 rfl rfl) (st (v := (.int .u64 q5)) (rv_assign rfl) (w_end (q_then (c_ret ?_))))
 obtain rfl := Option.some.inj h
 exact fin_ret (v := (.int .u64 q5)) (results_ok Try.results125 (res_tmp (v := (.int .u64 q5)) rfl res_nil) rfl) ⟨rfl, rfl⟩ (H.sel' [] rfl rfl)

theorem c_slices_xorshift_Next {Bf : Int} {Bg Bh Bi : Nat} {Bj Bk : List Value} {r : Int × Int} (h : M.slices_xorshift_Next Bf = some r) :
    Cal2 Try.prog 126 [(pt Bh Bi)] [Ch.bx Bg Bh Bi [(.int .u64 Bf)] Bj Bk] (fun n0 v L => v = (.int .u64 r.1) ∧ L = [Ch.bx Bg Bh Bi [(.int .u64 r.2)] Bj Bk]) := by
 refine cal2 (n := 33) Try.func126 rfl rfl rfl rfl ?_
 intro S0 σ0 n0 hn0 H
 unfold M.slices_xorshift_Next at h
 refine c_seq (rg (st (v := (.int .u64 0)) (rv_assign rfl) (w_end (q_then (c_seq ?_)))))
 refine rgP (σ := σ0) 7 (by kernel_rfl) (by kernel_rfl) (by kernel_rfl) ?_
 refine sq (v := (pt Bh Bi)) (rv_move rfl) (sq (v := (pt Bh Bi)) (rv_nilCheck rfl) ?_)
 have hc1 := H.cell (u := (.int .u64 Bf)) (o' := Bi) 0 0 rfl rfl rfl
 refine sq (v := (.int .u64 Bf)) (rv_load1 Try.underlying157 rfl rfl hc1) (sq (v := (pt Bh Bi)) (rv_move rfl) (sq (v := (pt Bh Bi)) (rv_nilCheck rfl) ?_))
 have hc2 := H.cell (u := (.int .u64 Bf)) (o' := Bi) 0 0 rfl rfl rfl
 refine sq (v := (.int .u64 Bf)) (rv_load1 Try.underlying157 rfl rfl hc2) ?_
 refine sq (v := (.int .u64 (gshl .u64 Bf 13))) (rvk_shl (k := .u64) (k' := .u64) (a := Bf) (b := 13) rfl rfl (by decide)) ?_
 refine sq_end ?_
 intro σ3 hm4
 replace H := H.grow (hm4.mono fun _ h => h); clear hm4
 refine st (v := (.int .u64 (gxork .u64 Bf (gshl .u64 Bf 13)))) (rvk_xor (k := .u64) (a := Bf) (b := (gshl .u64 Bf 13)) rfl rfl) (st (v := (pt Bh Bi)) (rv_nilCheck rfl) ?_)
 refine st_exS (ex_store_box (k := 0) (cs := [(.int .u64 Bf)]) (vs := [(.int .u64 (gxork .u64 Bf (gshl .u64 Bf 13)))]) (cs' := [(.int .u64 (gxork .u64 Bf (gshl .u64 Bf 13)))]) H (i := 0) rfl ti157 rfl rfl rfl rfl rfl (Nat.le_of_ble_eq_true rfl) (by simp [plain]) rfl) wn ?_
 rintro σ5 ⟨H, -⟩
 refine w_end (q_then (c_seq ?_))
 refine rgP (σ := σ5) 7 (by kernel_rfl) (by kernel_rfl) (by kernel_rfl) ?_
 refine sq (v := (pt Bh Bi)) (rv_move rfl) (sq (v := (pt Bh Bi)) (rv_nilCheck rfl) ?_)
 have hc6 := H.cell (u := (.int .u64 (gxork .u64 Bf (gshl .u64 Bf 13)))) (o' := Bi) 0 0 rfl rfl rfl
 refine sq (v := (.int .u64 (gxork .u64 Bf (gshl .u64 Bf 13)))) (rv_load1 Try.underlying157 rfl rfl hc6) (sq (v := (pt Bh Bi)) (rv_move rfl) (sq (v := (pt Bh Bi)) (rv_nilCheck rfl) ?_))
 have hc7 := H.cell (u := (.int .u64 (gxork .u64 Bf (gshl .u64 Bf 13)))) (o' := Bi) 0 0 rfl rfl rfl
 refine sq (v := (.int .u64 (gxork .u64 Bf (gshl .u64 Bf 13)))) (rv_load1 Try.underlying157 rfl rfl hc7) ?_
 refine sq (v := (.int .u64 (gshr .u64 (gxork .u64 Bf (gshl .u64 Bf 13)) 7))) (rvk_shr (k := .u64) (k' := .u64) (a := (gxork .u64 Bf (gshl .u64 Bf 13))) (b := 7) rfl rfl (by decide)) ?_
 refine sq_end ?_
 intro σ8 hm9
 replace H := H.grow (hm9.mono fun _ h => h); clear hm9
 refine st (v := (.int .u64 (gxork .u64 (gxork .u64 Bf (gshl .u64 Bf 13)) (gshr .u64 (gxork .u64 Bf (gshl .u64 Bf 13)) 7)))) (rvk_xor (k := .u64) (a := (gxork .u64 Bf (gshl .u64 Bf 13))) (b := (gshr .u64 (gxork .u64 Bf (gshl .u64 Bf 13)) 7)) rfl rfl) (st (v := (pt Bh Bi)) (rv_nilCheck rfl) ?_)
 refine st_exS (ex_store_box (k := 0) (cs := [(.int .u64 (gxork .u64 Bf (gshl .u64 Bf 13)))]) (vs := [(.int .u64 (gxork .u64 (gxork .u64 Bf (gshl .u64 Bf 13)) (gshr .u64 (gxork .u64 Bf (gshl .u64 Bf 13)) 7)))]) (cs' := [(.int .u64 (gxork .u64 (gxork .u64 Bf (gshl .u64 Bf 13)) (gshr .u64 (gxork .u64 Bf (gshl .u64 Bf 13)) 7)))]) H (i := 0) rfl ti157 rfl rfl rfl rfl rfl (Nat.le_of_ble_eq_true rfl) (by simp [plain]) rfl) wn ?_
 rintro σ10 ⟨H, -⟩
 refine w_end (q_then (c_seq ?_))
 refine rgP (σ := σ10) 7 (by kernel_rfl) (by kernel_rfl) (by kernel_rfl) ?_
 refine sq (v := (pt Bh Bi)) (rv_move rfl) (sq (v := (pt Bh Bi)) (rv_nilCheck rfl) ?_)
 have hc11 := H.cell (u := (.int .u64 (gxork .u64 (gxork .u64 Bf (gshl .u64 Bf 13)) (gshr .u64 (gxork .u64 Bf (gshl .u64 Bf 13)) 7)))) (o' := Bi) 0 0 rfl rfl rfl
 refine sq (v := (.int .u64 (gxork .u64 (gxork .u64 Bf (gshl .u64 Bf 13)) (gshr .u64 (gxork .u64 Bf (gshl .u64 Bf 13)) 7)))) (rv_load1 Try.underlying157 rfl rfl hc11) (sq (v := (pt Bh Bi)) (rv_move rfl) (sq (v := (pt Bh Bi)) (rv_nilCheck rfl) ?_))
 have hc12 := H.cell (u := (.int .u64 (gxork .u64 (gxork .u64 Bf (gshl .u64 Bf 13)) (gshr .u64 (gxork .u64 Bf (gshl .u64 Bf 13)) 7)))) (o' := Bi) 0 0 rfl rfl rfl
 refine sq (v := (.int .u64 (gxork .u64 (gxork .u64 Bf (gshl .u64 Bf 13)) (gshr .u64 (gxork .u64 Bf (gshl .u64 Bf 13)) 7)))) (rv_load1 Try.underlying157 rfl rfl hc12) ?_
 refine sq (v := (.int .u64 (gshl .u64 (gxork .u64 (gxork .u64 Bf (gshl .u64 Bf 13)) (gshr .u64 (gxork .u64 Bf (gshl .u64 Bf 13)) 7)) 17))) (rvk_shl (k := .u64) (k' := .u64) (a := (gxork .u64 (gxork .u64 Bf (gshl .u64 Bf 13)) (gshr .u64 (gxork .u64 Bf (gshl .u64 Bf 13)) 7))) (b := 17) rfl rfl (by decide)) ?_
 refine sq_end ?_
 intro σ13 hm14
 replace H := H.grow (hm14.mono fun _ h => h); clear hm14
 refine st (v := (.int .u64 (gxork .u64 (gxork .u64 (gxork .u64 Bf (gshl .u64 Bf 13)) (gshr .u64 (gxork .u64 Bf (gshl .u64 Bf 13)) 7)) (gshl .u64 (gxork .u64 (gxork .u64 Bf (gshl .u64 Bf 13)) (gshr .u64 (gxork .u64 Bf (gshl .u64 Bf 13)) 7)) 17)))) (rvk_xor (k := .u64) (a := (gxork .u64 (gxork .u64 Bf (gshl .u64 Bf 13)) (gshr .u64 (gxork .u64 Bf (gshl .u64 Bf 13)) 7))) (b := (gshl .u64 (gxork .u64 (gxork .u64 Bf (gshl .u64 Bf 13)) (gshr .u64 (gxork .u64 Bf (gshl .u64 Bf 13)) 7)) 17)) rfl rfl) (st (v := (pt Bh Bi)) (rv_nilCheck rfl) ?_)
 refine st_exS (ex_store_box (k := 0) (cs := [(.int .u64 (gxork .u64 (gxork .u64 Bf (gshl .u64 Bf 13)) (gshr .u64 (gxork .u64 Bf (gshl .u64 Bf 13)) 7)))]) (vs := [(.int .u64 (gxork .u64 (gxork .u64 (gxork .u64 Bf (gshl .u64 Bf 13)) (gshr .u64 (gxork .u64 Bf (gshl .u64 Bf 13)) 7)) (gshl .u64 (gxork .u64 (gxork .u64 Bf (gshl .u64 Bf 13)) (gshr .u64 (gxork .u64 Bf (gshl .u64 Bf 13)) 7)) 17)))]) (cs' := [(.int .u64 (gxork .u64 (gxork .u64 (gxork .u64 Bf (gshl .u64 Bf 13)) (gshr .u64 (gxork .u64 Bf (gshl .u64 Bf 13)) 7)) (gshl .u64 (gxork .u64 (gxork .u64 Bf (gshl .u64 Bf 13)) (gshr .u64 (gxork .u64 Bf (gshl .u64 Bf 13)) 7)) 17)))]) H (i := 0) rfl ti157 rfl rfl rfl rfl rfl (Nat.le_of_ble_eq_true rfl) (by simp [plain]) rfl) wn ?_
 rintro σ15 ⟨H, -⟩
 refine w_end (q_then (c_seq (rg (st (v := (pt Bh Bi)) (rv_move rfl) (st (v := (pt Bh Bi)) (rv_nilCheck rfl) ?_)))))
 have hc16 := H.cell (u := (.int .u64 (gxork .u64 (gxork .u64 (gxork .u64 Bf (gshl .u64 Bf 13)) (gshr .u64 (gxork .u64 Bf (gshl .u64 Bf 13)) 7)) (gshl .u64 (gxork .u64 (gxork .u64 Bf (gshl .u64 Bf 13)) (gshr .u64 (gxork .u64 Bf (gshl .u64 Bf 13)) 7)) 17)))) (o' := Bi) 0 0 rfl rfl rfl
 refine st (v := (.int .u64 (gxork .u64 (gxork .u64 (gxork .u64 Bf (gshl .u64 Bf 13)) (gshr .u64 (gxork .u64 Bf (gshl .u64 Bf 13)) 7)) (gshl .u64 (gxork .u64 (gxork .u64 Bf (gshl .u64 Bf 13)) (gshr .u64 (gxork .u64 Bf (gshl .u64 Bf 13)) 7)) 17)))) (rv_load1 Try.underlying157 rfl rfl hc16) (st (v := (.int .u64 (gxork .u64 (gxork .u64 (gxork .u64 Bf (gshl .u64 Bf 13)) (gshr .u64 (gxork .u64 Bf (gshl .u64 Bf 13)) 7)) (gshl .u64 (gxork .u64 (gxork .u64 Bf (gshl .u64 Bf 13)) (gshr .u64 (gxork .u64 Bf (gshl .u64 Bf 13)) 7)) 17)))) (rv_assign rfl) (w_end (q_then (c_ret ?_))))
 obtain rfl := Option.some.inj h
 exact fin_ret (v := (.int .u64 (gxork .u64 (gxork .u64 (gxork .u64 Bf (gshl .u64 Bf 13)) (gshr .u64 (gxork .u64 Bf (gshl .u64 Bf 13)) 7)) (gshl .u64 (gxork .u64 (gxork .u64 Bf (gshl .u64 Bf 13)) (gshr .u64 (gxork .u64 Bf (gshl .u64 Bf 13)) 7)) 17)))) (results_ok Try.results126 (res_tmp (v := (.int .u64 (gxork .u64 (gxork .u64 (gxork .u64 Bf (gshl .u64 Bf 13)) (gshr .u64 (gxork .u64 Bf (gshl .u64 Bf 13)) 7)) (gshl .u64 (gxork .u64 (gxork .u64 Bf (gshl .u64 Bf 13)) (gshr .u64 (gxork .u64 Bf (gshl .u64 Bf 13)) 7)) 17)))) rfl res_nil) rfl) ⟨rfl, rfl⟩ (H.sel' [0] rfl rfl)

theorem c_impl_hitOf {Af : Int × (List Int) × Int} {Bl : Int} {Bm : List Int} {Ag : Option Addr} {Ah : Nat} {Bn : Option Addr} {Bo : Nat} {r : (Int × Int)} (h : M.impl_hitOf Af Bl Bm = some r) :
    Cal2 Try.prog 76 [(.agg #[(I Af.1), (Sl Ag Af.2.1 Ah), (I Af.2.2)]), (I Bl), (Sl Bn Bm Bo)] [Ch.ro 0 (Sl Ag Af.2.1 Ah) Af.2.1, Ch.ro 0 (Sl Bn Bm Bo) Bm] (fun n0 v L => v = (.agg #[(I r.1), (I r.2)]) ∧ L = []) := by
 refine cal2 (n := 15) Try.func76 rfl rfl rfl rfl ?_
 intro S0 σ0 n0 hn0 H
 unfold M.impl_hitOf at h
 refine c_seq (rg (st_ex (ex_box (cs := [(I Af.1), (Sl Ag Af.2.1 Ah), (I Af.2.2)]) H hn0 rfl rfl) wn ?_))
 rintro _ σ2 ⟨b1, rfl, H, -⟩
 refine st_ex (ex_alloc (cs := [(I 0), (I 0)]) H hn0 ti107 rfl) wn ?_
 rintro _ σ4 ⟨b3, rfl, H, -⟩
 refine w_end (q_then (c_seq ?_))
 have hc5 := H.cell (u := (I Af.1)) (o' := 0) 1 0 rfl rfl rfl
 have hc6 := H.cell (u := (Sl Ag Af.2.1 Ah)) (o' := 1) 1 1 rfl rfl rfl
 obtain ⟨r7, hx8, h'⟩ := bind_some h
 clear h
 have h := h'; clear h'
 have hc9 := c_impl_Distance (Ax := Ag) (Ay := Ah) (Az := Bn) (Ba := Bo) hx8
 have Hs := H
 refine rg2 (σ := σ4) (Nm := Unit) 7 [6] [[false], [true]] [[(0, 0), (1, 1)], [(0, 0), (1, 1)], [(0, 0)], [(0, 0)], [(0, 0)], [(0, 0)], [(0, 1)]] 1 [fun _ => fun σm => Hp S0 σ0 σm [Ch.bx n0 b3 0 [(I 0), (I 0)] [] [], Ch.bx n0 b1 0 [(I Af.1), (Sl Ag Af.2.1 Ah), (I Af.2.2)] [] [], Ch.ro 0 (Sl Ag Af.2.1 Ah) Af.2.1, Ch.ro 0 (Sl Bn Bm Bo) Bm] ∧ Md (cov []) σ4 σm, fun _ => fun σm => Hp S0 σ0 σm [Ch.bx n0 b3 0 [(I 0), (I 0)] [] [], Ch.bx n0 b1 0 [(I Af.1), (Sl Ag Af.2.1 Ah), (I Af.2.2)] [] [], Ch.ro 0 (Sl Ag Af.2.1 Ah) Af.2.1, Ch.ro 0 (Sl Bn Bm Bo) Bm] ∧ Md (cov []) σ4 σm] [fun _ => (pt b1 0), fun _ => (I Af.1), fun _ => (I Bl), fun _ => (pt b1 1), fun _ => (Sl Ag Af.2.1 Ah), fun _ => (Sl Bn Bm Bo), fun _ => (I r7)] () (by kernel_rfl) (by kernel_rfl) ?_ ?_ ?_
 ·intro σm m0
  exact ⟨H.grow (m0.mono fun _ h => h.elim), m0⟩
 ·refine ac rfl (by
    intro k _nm ρ σm hJ hoff hdep
    have e3 := look_off (N := 15) (hoff 3 rfl) rfl
    exact dp_v (v := (pt b1 0)) wn (rv_fieldAddr (off := 0) (ft := 3) Try.underlying34 rfl ti3 rfl e3) rfl hJ) ?_
  refine all_cons (by
    refine ⟨?_, ?_⟩
    ·intro _nm ρ σm hJ hoff hdep
     have e7 := hdep 0 rfl rfl 7 rfl
     obtain ⟨H, m⟩ := id hJ
     have hc5 := H.cell (u := (I Af.1)) (o' := 0) 1 0 rfl rfl rfl
     exact dp_v (v := (I Af.1)) wn (rv_load1 Try.underlying3 rfl e7 hc5) rfl hJ
    refine ⟨?_, ?_⟩
    ·intro _nm ρ σm hJ hoff hdep
     have e7 := hdep 0 rfl rfl 7 rfl
     obtain ⟨H, m⟩ := id hJ
     have hc5 := H.cell (u := (I Af.1)) (o' := 0) 1 0 rfl rfl rfl
     exact dp_v (v := (I Af.1)) wn (rv_load1 Try.underlying3 rfl e7 hc5) rfl hJ
    trivial) ?_
  refine ac rfl (by
    intro k _nm ρ σm hJ hoff hdep
    have e1 := look_off (N := 15) (hoff 1 rfl) rfl
    exact dp_v (v := (I Bl)) wn (rv_move e1) rfl hJ) ?_
  refine ac rfl (by
    intro k _nm ρ σm hJ hoff hdep
    have e3 := look_off (N := 15) (hoff 3 rfl) rfl
    exact dp_v (v := (pt b1 1)) wn (rv_fieldAddr (off := 1) (ft := 29) Try.underlying34 rfl ti29 rfl e3) rfl hJ) ?_
  refine all_cons (by
    refine ⟨?_, ?_⟩
    ·intro _nm ρ σm hJ hoff hdep
     have e10 := hdep 3 rfl rfl 10 rfl
     obtain ⟨H, m⟩ := id hJ
     have hc6 := H.cell (u := (Sl Ag Af.2.1 Ah)) (o' := 1) 1 1 rfl rfl rfl
     exact dp_v (v := (Sl Ag Af.2.1 Ah)) wn (rv_load1 Try.underlying29 rfl e10 hc6) rfl hJ
    trivial) ?_
  refine ac rfl (by
    intro k _nm ρ σm hJ hoff hdep
    have e2 := look_off (N := 15) (hoff 2 rfl) rfl
    exact dp_v (v := (Sl Bn Bm Bo)) wn (rv_move e2) rfl hJ) ?_
  refine all_cons (by
    refine ⟨?_, ?_⟩
    ·intro _nm ρ σm hJ hoff hdep
     have e9 : look 15 ρ 9 = (I Bl) := hdep 2 rfl rfl 9 rfl
     have e11 : look 15 ρ 11 = (Sl Ag Af.2.1 Ah) := hdep 4 rfl rfl 11 rfl
     have e12 : look 15 ρ 12 = (Sl Bn Bm Bo) := hdep 5 rfl rfl 12 rfl
     obtain ⟨H, m⟩ := id hJ
     refine dp_cx wn (cx_call hc9 (ent_f hc9.fn (by show [look 15 ρ 9, look 15 ρ 11, look 15 ρ 12] = _; rw [e9, e11, e12])) hn0 (H.sel' [2, 3, 0, 1, 2, 3] rfl rfl : Hp S0 σ0 _ ([_, _] ++ _))) ?_
     rintro _ σq ⟨_, ⟨rfl, rfl⟩, H2, m2⟩
     exact ⟨_, (), rfl, rfl, ⟨H2.sel' [0, 1, 2, 3] rfl rfl, m.comp0 (m2.mono (fun i h => by simp [cov, Ch.ro] at h))⟩, stab [0, 1, 2, 3, 4, 5] (by kernel_rfl) ⟨rfl, rfl, rfl, rfl, rfl, rfl, trivial⟩⟩
    trivial) ?_
  exact all_nil
 ·intro _nm ρ σ10 hJ hoff hrel
  have e6 := look_off (N := 15) (hoff 6 rfl) rfl
  have e8 := hrel 1 rfl 8 rfl
  have e13 := hrel 6 rfl 13 rfl
  obtain ⟨H, -⟩ := (show Hp S0 σ0 σ10 [Ch.bx n0 b3 0 [(I 0), (I 0)] [] [], Ch.bx n0 b1 0 [(I Af.1), (Sl Ag Af.2.1 Ah), (I Af.2.2)] [] [], Ch.ro 0 (Sl Ag Af.2.1 Ah) Af.2.1, Ch.ro 0 (Sl Bn Bm Bo) Bm] ∧ Md (cov []) σ4 σ10 from hJ)
  clear hJ Hs
  rw [fr_lookL (L := [(6, (pt b3 0)), (8, (I Af.1)), (13, (I r7))]) ⟨e6, e8, e13, trivial⟩]
  clear hoff hrel e6 e8 e13
  refine st (v := (.agg #[(I Af.1), (I r7)])) (rv_build (ps := [(0, (I Af.1)), (1, (I r7))]) Try.underlying107 ti107 (bp107 Try.underlying107) rfl (by kernel_rfl)) ?_
  refine st_exS (ex_store_box (k := 0) (cs := [(I 0), (I 0)]) (vs := [(I Af.1), (I r7)]) (cs' := [(I Af.1), (I r7)]) H (i := 0) rfl ti107 rfl rfl rfl rfl rfl (Nat.le_of_ble_eq_true rfl) (by simp [plain]) rfl) wn ?_
  rintro σ11 ⟨H, -⟩
  refine w_end (q_then (c_ret ?_))
  obtain rfl := Option.some.inj h
  exact fin_ret (v := (.agg #[(I Af.1), (I r7)])) (results_ok Try.results76 (res_cell rfl (run_cellRes (cs := [(I Af.1), (I r7)]) Try.underlying107 rfl ti107 rfl (H.cells 0 rfl)) res_nil) rfl) ⟨rfl, rfl⟩ (H.sel' [] rfl rfl)

theorem c_cmp_isNaN_int {Af : Int}  {r : Bool} (h : M.cmp_isNaN_int Af = some r) :
    Cal2 Try.prog 122 [(I Af)] [] (fun n0 v L => v = (B r) ∧ L = []) := by
 refine cal2 (n := 6) Try.func122 rfl rfl rfl rfl ?_
 intro S0 σ0 n0 hn0 H
 unfold M.cmp_isNaN_int at h
 refine c_seq (rg (st (v := (B false)) (rv_assign rfl) (w_end (q_then (c_seq (rg (st (v := (I Af)) (rv_move rfl) (st (v := (I Af)) (rv_move rfl) (st (v := (B (Af != Af))) (rv_neq (a := Af) (b := Af) rfl rfl) (st (v := (B (Af != Af))) (rv_assign rfl) (w_end ?_)))))))))))
 refine q_then (c_ret ?_)
 obtain rfl := Option.some.inj h
 exact fin_ret (v := (B (Af != Af))) (results_ok Try.results122 (res_tmp (v := (B (Af != Af))) rfl res_nil) rfl) ⟨rfl, rfl⟩ (H.sel' [] rfl rfl)

theorem c_cmp_Compare_int {Af : Int} {Bp : Int}  {r : Int} (h : M.cmp_Compare_int Af Bp = some r) :
    Cal2 Try.prog 107 [(I Af), (I Bp)] [] (fun n0 v L => v = (I r) ∧ L = []) := by
 refine cal2 (n := 20) Try.func107 rfl rfl rfl rfl ?_
 intro S0 σ0 n0 hn0 H
 unfold M.cmp_Compare_int at h
 refine c_seq (rg (st (v := (I 0)) (rv_assign rfl) (w_end (q_then (c_seq (rg (st (v := (I Af)) (rv_move rfl) ?_)))))))
 obtain ⟨r1, hx2, h'⟩ := bind_some h
 clear h
 have h := h'; clear h'
 have hc3 := c_cmp_isNaN_int hx2
 refine st_call (cx_call hc3 (ent_f hc3.fn rfl) hn0 (H.sel' [] rfl rfl : Hp S0 σ0 _ ([] ++ _))) wn ?_
 rintro _ σ4 ⟨_, ⟨rfl, rfl⟩, H, -⟩
 replace H : Hp _ _ _ [] := H
 refine st (v := (B r1)) (rv_assign rfl) (w_end (q_then (c_seq (rg (st (v := (I Bp)) (rv_move rfl) ?_)))))
 obtain ⟨r5, hx6, h'⟩ := bind_some h
 clear h
 have h := h'; clear h'
 have hc7 := c_cmp_isNaN_int hx6
 refine st_call (cx_call hc7 (ent_f hc7.fn rfl) hn0 (H.sel' [] rfl rfl : Hp S0 σ0 _ ([] ++ _))) wn ?_
 rintro _ σ8 ⟨_, ⟨rfl, rfl⟩, H, -⟩
 replace H : Hp _ _ _ [] := H
 refine st (v := (B r5)) (rv_assign rfl) (w_end (q_then (c_seq (c_seq (rg (st (v := (B r1)) (rv_move rfl) (w_end (q_then ?_))))))))
 refine cd_cond r1 rfl (fun hb9 => ?_) (fun hb9 => ?_)
 ·replace h := bif_t hb9 h
  refine c_seq (c_seq (rg (st (v := (B r5)) (rv_move rfl) (w_end (q_then ?_)))))
  refine cd_cond r5 rfl (fun hb10 => ?_) (fun hb10 => ?_)
  ·replace h := bif_t hb10 h
   refine c_seq (rg (st (v := (I 0)) (rv_assign rfl) (w_end (q_then (c_ret (q_then_r (q_then_r ?_)))))))
   obtain rfl := Option.some.inj h
   exact fin_ret (v := (I 0)) (results_ok Try.results107 (res_tmp (v := (I 0)) rfl res_nil) rfl) ⟨rfl, rfl⟩ (H.sel' [] rfl rfl)
  ·replace h := bif_f hb10 h
   refine c_skip (q_then (c_seq (rg (st (v := (I (-1))) (rv_assign rfl) (w_end (q_then (c_ret (q_then_r ?_))))))))
   obtain rfl := Option.some.inj h
   exact fin_ret (v := (I (-1))) (results_ok Try.results107 (res_tmp (v := (I (-1))) rfl res_nil) rfl) ⟨rfl, rfl⟩ (H.sel' [] rfl rfl)
 ·replace h := bif_f hb9 h
  refine c_skip (q_then (c_seq (c_seq (rg (st (v := (B r5)) (rv_move rfl) (w_end (q_then ?_)))))))
  refine cd_cond r5 rfl (fun hb11 => ?_) (fun hb11 => ?_)
  ·replace h := bif_t hb11 h
   refine c_seq (rg (st (v := (I 1)) (rv_assign rfl) (w_end (q_then (c_ret (q_then_r ?_))))))
   obtain rfl := Option.some.inj h
   exact fin_ret (v := (I 1)) (results_ok Try.results107 (res_tmp (v := (I 1)) rfl res_nil) rfl) ⟨rfl, rfl⟩ (H.sel' [] rfl rfl)
  ·replace h := bif_f hb11 h
   refine c_skip (q_then (c_seq (c_seq (rg (st (v := (I Af)) (rv_move rfl) (st (v := (I Bp)) (rv_move rfl) (st (v := (B (decide (Af < Bp)))) (rv_lss (a := Af) (b := Bp) rfl rfl) (w_end (q_then ?_)))))))))
   refine cd_cond (decide (Af < Bp)) rfl (fun hb12 => ?_) (fun hb12 => ?_)
   ·replace h := bif_t hb12 h
    refine c_seq (rg (st (v := (I (-1))) (rv_assign rfl) (w_end (q_then (c_ret (q_then_r ?_))))))
    obtain rfl := Option.some.inj h
    exact fin_ret (v := (I (-1))) (results_ok Try.results107 (res_tmp (v := (I (-1))) rfl res_nil) rfl) ⟨rfl, rfl⟩ (H.sel' [] rfl rfl)
   ·replace h := bif_f hb12 h
    refine c_skip (q_then (c_seq (c_seq (rg (st (v := (I Af)) (rv_move rfl) (st (v := (I Bp)) (rv_move rfl) (st (v := (B (decide (Bp < Af)))) (rv_gtr (a := Af) (b := Bp) rfl rfl) (w_end (q_then ?_)))))))))
    refine cd_cond (decide (Bp < Af)) rfl (fun hb13 => ?_) (fun hb13 => ?_)
    ·replace h := bif_t hb13 h
     refine c_seq (rg (st (v := (I 1)) (rv_assign rfl) (w_end (q_then (c_ret (q_then_r ?_))))))
     obtain rfl := Option.some.inj h
     exact fin_ret (v := (I 1)) (results_ok Try.results107 (res_tmp (v := (I 1)) rfl res_nil) rfl) ⟨rfl, rfl⟩ (H.sel' [] rfl rfl)
    ·replace h := bif_f hb13 h
     refine c_skip (q_then (c_seq (rg (st (v := (I 0)) (rv_assign rfl) (w_end (q_then (c_ret ?_)))))))
     obtain rfl := Option.some.inj h
     exact fin_ret (v := (I 0)) (results_ok Try.results107 (res_tmp (v := (I 0)) rfl res_nil) rfl) ⟨rfl, rfl⟩ (H.sel' [] rfl rfl)

theorem c_cmp_Or_int {Bq : List Int} {Br : Option Addr} {Bs : Nat} {r : Int} (h : M.cmp_Or_int Bq = some r) :
    Cal2 Try.prog 106 [(Sl Br Bq Bs)] [Ch.ro 0 (Sl Br Bq Bs) Bq] (fun n0 v L => v = (I r) ∧ L = []) := by
 refine cal2 (n := 18) Try.func106 rfl rfl rfl rfl ?_
 intro S0 σ0 n0 hn0 H
 unfold M.cmp_Or_int at h
 refine c_seq (rg (st (v := (I 0)) (rv_assign rfl) (w_end (q_then (c_seq (rg (st (v := (I 0)) (rv_assign rfl) (w_end (q_then (c_seq (c_seq ?_)))))))))))
 refine rg (st (v := (Sl Br Bq Bs)) (rv_move rfl) (st (v := (I (Bq.length : Int))) (rv_len Try.underlying29 rfl) (st (v := (I 0)) (rv_move rfl) (w_end (q_then ?_)))))
 obtain ⟨o1, hj, h'⟩ := bind_some h
 clear h
 refine c_cut (fun e a w => (∃ t, o1 = (.inl t) ∧ e = .normal ∧ ∃ (ρ : Nat → Value) (σ : St), a = fr 18 (updL ρ [(3, (I 0))]) ∧ w = σ.w ∧ Hp S0 σ0 σ []) ∨ (∃ t, o1 = (.inr t) ∧ e = .ret ∧ ∃ (ρ : Nat → Value) (σ : St), a = fr 18 (updL ρ [(2, (I t))]) ∧ w = σ.w ∧ Hp S0 σ0 σ [])) ?_ ?_
 ·clear h'
  rename _ = some o1 => h
  refine c_blk (wp_loopM _ h (fun s2 a w => ∃ (ρ : Nat → Value) (σ : St), a = fr 18 (updL ρ [(3, (I 0)), (6, (Sl Br Bq Bs)), (7, (I (Bq.length : Int))), (8, (I s2))]) ∧ w = σ.w ∧ Hp S0 σ0 σ [Ch.ro 0 (Sl Br Bq Bs) Bq]) ⟨_, σ0, fr_join ⟨rfl, rfl, rfl, rfl, trivial⟩, rfl, H.sel' [0] rfl rfl⟩ ?_)
  clear h H
  rintro s2 a w o ⟨ρ, σ3, rfl, rfl, H⟩ h hres
  refine c_seq (rg (st (v := (B (decide (s2 < (Bq.length : Int))))) (rv_lss (a := s2) (b := (Bq.length : Int)) rfl rfl) (w_end (q_then (c_seq ?_)))))
  refine cd_cond (decide (s2 < (Bq.length : Int))) rfl (fun hb4 => ?_) (fun hb4 => ?_)
  ·replace h := bif_t hb4 h
   refine c_skip (q_then (c_seq (c_blk (c_seq (rg ?_)))))
   obtain ⟨x5, hx6, h'⟩ := bind_some h
   clear h
   have h := h'; clear h'
   obtain ⟨b8, o9, hi7, -⟩ := (H.ro 0 rfl).ix hx6
   refine st (v := (pt b8 o9)) (rv_ix Try.underlying29 ti3 rfl rfl hi7) ?_
   have hc10 := ((H.ro 0 rfl).at hx6 hi7).int
   refine st (v := (I x5)) (rv_load1 Try.underlying3 rfl rfl hc10) (st (v := (I x5)) (rv_assign rfl) (w_end (q_then (c_seq (rg (st (v := (I x5)) (rv_move rfl) (st (v := (I 0)) (rv_move rfl) (st (v := (B (x5 != 0))) (rv_neq (a := x5) (b := 0) rfl rfl) (w_end (q_then ?_))))))))))
   refine cd_cond (x5 != 0) rfl (fun hb11 => ?_) (fun hb11 => ?_)
   ·replace h := bif_t hb11 h
    refine c_seq (rg (st (v := (I x5)) (rv_move rfl) (st (v := (I x5)) (rv_assign rfl) (w_end (q_then (c_ret (q_blk_r (q_then_r (q_then_r (q_blk_r ?_))))))))))
    obtain rfl := Option.some.inj h
    obtain rfl := hres _ rfl
    exact .inr (⟨_, rfl, rfl, _, σ3, fr_join ⟨rfl, trivial⟩, rfl, H.sel' [] rfl rfl⟩)
   ·replace h := bif_f hb11 h
    refine c_skip (q_blk (q_then (rg (st (v := (I (w64 (s2 + 1)))) (rv_add (a := s2) (b := 1) rfl rfl) (st (v := (I (w64 (s2 + 1)))) (rv_move rfl) (w_end (q_then ?_)))))))
    obtain rfl := Option.some.inj h
    exact ⟨_, rfl, _, σ3, fr_join ⟨rfl, rfl, rfl, rfl, trivial⟩, rfl, H.sel' [0] rfl rfl⟩
  ·replace h := bif_f hb4 h
   refine c_exit (q_then_x (q_then_x (q_blk_hit ?_)))
   obtain rfl := Option.some.inj h
   obtain rfl := hres _ rfl
   exact .inl ⟨_, rfl, rfl, _, σ3, fr_join ⟨rfl, trivial⟩, rfl, H.sel' [] rfl rfl⟩
 ·clear hj
  have h := h'
  clear h' H
  rintro e a w (⟨t12, rfl, rfl, ρ, σ13, rfl, rfl, H⟩ | ⟨t14, rfl, rfl, ρ, σ15, rfl, rfl, H⟩)
  ·replace h := selim_l h
   refine q_then (c_seq (rg (st (v := (I 0)) (rv_move rfl) (st (v := (I 0)) (rv_assign rfl) (w_end (q_then (c_ret ?_)))))))
   obtain rfl := Option.some.inj h
   exact fin_ret (v := (I 0)) (results_ok Try.results106 (res_tmp (v := (I 0)) rfl res_nil) rfl) ⟨rfl, rfl⟩ (H.sel' [] rfl rfl)
  ·replace h := selim_r h
   refine q_then_r ?_
   obtain rfl := Option.some.inj h
   exact fin_ret (v := (I t14)) (results_ok Try.results106 (res_tmp (v := (I t14)) rfl res_nil) rfl) ⟨rfl, rfl⟩ (H.sel' [] rfl rfl)

theorem c_impl_compareHits {Aq : Int × Int} {Ar : Int × Int}  {r : Int} (h : M.impl_compareHits Aq Ar = some r) :
    Cal2 Try.prog 89 [(.agg #[(I Aq.1), (I Aq.2)]), (.agg #[(I Ar.1), (I Ar.2)])] [] (fun n0 v L => v = (I r) ∧ L = []) := by
 refine cal2 (n := 17) Try.func89 rfl rfl rfl rfl ?_
 intro S0 σ0 n0 hn0 H
 unfold M.impl_compareHits at h
 refine c_seq (rg (st_ex (ex_box (cs := [(I Aq.1), (I Aq.2)]) H hn0 rfl rfl) wn ?_))
 rintro _ σ2 ⟨b1, rfl, H, -⟩
 refine st_ex (ex_box (cs := [(I Ar.1), (I Ar.2)]) H hn0 rfl rfl) wn ?_
 rintro _ σ4 ⟨b3, rfl, H, -⟩
 refine st (v := (I 0)) (rv_assign rfl) (w_end (q_then (c_seq ?_)))
 have hc5 := H.cell (u := (I Aq.2)) (o' := 1) 1 1 rfl rfl rfl
 have hc6 := H.cell (u := (I Ar.2)) (o' := 1) 0 1 rfl rfl rfl
 obtain ⟨r7, hx8, h'⟩ := bind_some h
 clear h
 have h := h'; clear h'
 have hc9 := c_cmp_Compare_int hx8
 have hc10 := H.cell (u := (I Aq.1)) (o' := 0) 1 0 rfl rfl rfl
 have hc11 := H.cell (u := (I Ar.1)) (o' := 0) 0 0 rfl rfl rfl
 have Hs := H
 refine rg2 (σ := σ4) (Nm := Unit) 9 [4] [[false], [true]] [[(0, 0)], [(0, 0)], [(0, 0)], [(0, 0)], [(0, 1)], [(0, 0), (1, 1)], [(0, 0), (1, 1)], [(0, 0), (1, 1)], [(0, 0), (1, 1)]] 1 [fun _ => fun σm => Hp S0 σ0 σm [Ch.bx n0 b3 0 [(I Ar.1), (I Ar.2)] [] [], Ch.bx n0 b1 0 [(I Aq.1), (I Aq.2)] [] []] ∧ Md (cov []) σ4 σm, fun _ => fun σm => Hp S0 σ0 σm [Ch.bx n0 b3 0 [(I Ar.1), (I Ar.2)] [] [], Ch.bx n0 b1 0 [(I Aq.1), (I Aq.2)] [] []] ∧ Md (cov []) σ4 σm] [fun _ => (pt b1 1), fun _ => (I Aq.2), fun _ => (pt b3 1), fun _ => (I Ar.2), fun _ => (I r7), fun _ => (pt b1 0), fun _ => (I Aq.1), fun _ => (pt b3 0), fun _ => (I Ar.1)] () (by kernel_rfl) (by kernel_rfl) ?_ ?_ ?_
 ·intro σm m0
  exact ⟨H.grow (m0.mono fun _ h => h.elim), m0⟩
 ·refine ac rfl (by
    intro k _nm ρ σm hJ hoff hdep
    have e2 := look_off (N := 17) (hoff 2 rfl) rfl
    exact dp_v (v := (pt b1 1)) wn (rv_fieldAddr (off := 1) (ft := 3) Try.underlying107 rfl ti3 rfl e2) rfl hJ) ?_
  refine all_cons (by
    refine ⟨?_, ?_⟩
    ·intro _nm ρ σm hJ hoff hdep
     have e5 := hdep 0 rfl rfl 5 rfl
     obtain ⟨H, m⟩ := id hJ
     have hc5 := H.cell (u := (I Aq.2)) (o' := 1) 1 1 rfl rfl rfl
     exact dp_v (v := (I Aq.2)) wn (rv_load1 Try.underlying3 rfl e5 hc5) rfl hJ
    trivial) ?_
  refine ac rfl (by
    intro k _nm ρ σm hJ hoff hdep
    have e3 := look_off (N := 17) (hoff 3 rfl) rfl
    exact dp_v (v := (pt b3 1)) wn (rv_fieldAddr (off := 1) (ft := 3) Try.underlying107 rfl ti3 rfl e3) rfl hJ) ?_
  refine all_cons (by
    refine ⟨?_, ?_⟩
    ·intro _nm ρ σm hJ hoff hdep
     have e7 := hdep 2 rfl rfl 7 rfl
     obtain ⟨H, m⟩ := id hJ
     have hc6 := H.cell (u := (I Ar.2)) (o' := 1) 0 1 rfl rfl rfl
     exact dp_v (v := (I Ar.2)) wn (rv_load1 Try.underlying3 rfl e7 hc6) rfl hJ
    trivial) ?_
  refine all_cons (by
    refine ⟨?_, ?_⟩
    ·intro _nm ρ σm hJ hoff hdep
     have e6 : look 17 ρ 6 = (I Aq.2) := hdep 1 rfl rfl 6 rfl
     have e8 : look 17 ρ 8 = (I Ar.2) := hdep 3 rfl rfl 8 rfl
     obtain ⟨H, m⟩ := id hJ
     refine dp_cx wn (cx_call hc9 (ent_f hc9.fn (by show [look 17 ρ 6, look 17 ρ 8] = _; rw [e6, e8])) hn0 (H.sel' [0, 1] rfl rfl : Hp S0 σ0 _ ([] ++ _))) ?_
     rintro _ σq ⟨_, ⟨rfl, rfl⟩, H2, m2⟩
     exact ⟨_, (), rfl, rfl, ⟨H2.sel' [0, 1] rfl rfl, m.comp0 m2⟩, stab [0, 1, 2, 3, 5, 6, 7, 8] (by kernel_rfl) ⟨rfl, rfl, rfl, rfl, rfl, rfl, rfl, rfl, trivial⟩⟩
    trivial) ?_
  refine ac rfl (by
    intro k _nm ρ σm hJ hoff hdep
    have e2 := look_off (N := 17) (hoff 2 rfl) rfl
    exact dp_v (v := (pt b1 0)) wn (rv_fieldAddr (off := 0) (ft := 3) Try.underlying107 rfl ti3 rfl e2) rfl hJ) ?_
  refine all_cons (by
    refine ⟨?_, ?_⟩
    ·intro _nm ρ σm hJ hoff hdep
     have e10 := hdep 5 rfl rfl 10 rfl
     obtain ⟨H, m⟩ := id hJ
     have hc10 := H.cell (u := (I Aq.1)) (o' := 0) 1 0 rfl rfl rfl
     exact dp_v (v := (I Aq.1)) wn (rv_load1 Try.underlying3 rfl e10 hc10) rfl hJ
    refine ⟨?_, ?_⟩
    ·intro _nm ρ σm hJ hoff hdep
     have e10 := hdep 5 rfl rfl 10 rfl
     obtain ⟨H, m⟩ := id hJ
     have hc10 := H.cell (u := (I Aq.1)) (o' := 0) 1 0 rfl rfl rfl
     exact dp_v (v := (I Aq.1)) wn (rv_load1 Try.underlying3 rfl e10 hc10) rfl hJ
    trivial) ?_
  refine ac rfl (by
    intro k _nm ρ σm hJ hoff hdep
    have e3 := look_off (N := 17) (hoff 3 rfl) rfl
    exact dp_v (v := (pt b3 0)) wn (rv_fieldAddr (off := 0) (ft := 3) Try.underlying107 rfl ti3 rfl e3) rfl hJ) ?_
  refine all_cons (by
    refine ⟨?_, ?_⟩
    ·intro _nm ρ σm hJ hoff hdep
     have e12 := hdep 7 rfl rfl 12 rfl
     obtain ⟨H, m⟩ := id hJ
     have hc11 := H.cell (u := (I Ar.1)) (o' := 0) 0 0 rfl rfl rfl
     exact dp_v (v := (I Ar.1)) wn (rv_load1 Try.underlying3 rfl e12 hc11) rfl hJ
    refine ⟨?_, ?_⟩
    ·intro _nm ρ σm hJ hoff hdep
     have e12 := hdep 7 rfl rfl 12 rfl
     obtain ⟨H, m⟩ := id hJ
     have hc11 := H.cell (u := (I Ar.1)) (o' := 0) 0 0 rfl rfl rfl
     exact dp_v (v := (I Ar.1)) wn (rv_load1 Try.underlying3 rfl e12 hc11) rfl hJ
    trivial) ?_
  exact all_nil
 ·intro _nm ρ σ12 hJ hoff hrel
  have e9 := hrel 4 rfl 9 rfl
  have e11 := hrel 6 rfl 11 rfl
  have e13 := hrel 8 rfl 13 rfl
  obtain ⟨H, -⟩ := (show Hp S0 σ0 σ12 [Ch.bx n0 b3 0 [(I Ar.1), (I Ar.2)] [] [], Ch.bx n0 b1 0 [(I Aq.1), (I Aq.2)] [] []] ∧ Md (cov []) σ4 σ12 from hJ)
  clear hJ Hs
  rw [fr_lookL (L := [(9, (I r7)), (11, (I Aq.1)), (13, (I Ar.1))]) ⟨e9, e11, e13, trivial⟩]
  clear hoff hrel e9 e11 e13
  obtain ⟨r13, hx14, h'⟩ := bind_some h
  clear h
  have h := h'; clear h'
  have hc15 := c_cmp_Compare_int hx14
  refine st_call (cx_call hc15 (ent_f hc15.fn rfl) hn0 (H.sel' [0, 1] rfl rfl : Hp S0 σ0 _ ([] ++ _))) wn ?_
  rintro _ σ16 ⟨_, ⟨rfl, rfl⟩, H, -⟩
  replace H : Hp _ _ _ [_, _] := H
  refine st_ex (ex_buildSlice (el := n0) (xs := ([r7, r13] : List Int)) (ps := [(0, (I r7)), (1, (I r13))]) (cs := [(I r7), (I r13)]) H hn0 Try.underlying29 ti3 rfl rfl (by kernel_rfl) (.cons (c := [(I r7)]) rfl (.cons (c := [(I r13)]) rfl (.nil))) rfl) wn ?_
  rintro _ σ18 ⟨b17, rfl, H, -⟩
  obtain ⟨σ19, hw20, H, -⟩ := H.pub 0 rfl (Nat.le_refl _)
  rw [← hw20]; clear hw20
  replace H := H.roLow 0 0 rfl (Nat.zero_le _)
  obtain ⟨r21, hx22, h'⟩ := bind_some h
  clear h
  have h := h'; clear h'
  have hc23 := c_cmp_Or_int (Br := (some ⟨b17, 0, none⟩)) (Bs := 2) hx22
  refine st_call (cx_call hc23 (ent_f hc23.fn rfl) hn0 (H.sel' [0, 0, 1, 2, 3] rfl rfl : Hp S0 σ0 _ ([_] ++ _))) wn ?_
  rintro _ σ24 ⟨_, ⟨rfl, rfl⟩, H, -⟩
  replace H : Hp _ _ _ [_, _, _, _] := H
  refine st (v := (I r21)) (rv_assign rfl) (w_end (q_then (c_ret ?_)))
  obtain rfl := Option.some.inj h
  exact fin_ret (v := (I r21)) (results_ok Try.results89 (res_tmp (v := (I r21)) rfl res_nil) rfl) ⟨rfl, rfl⟩ (H.sel' [] rfl rfl)

theorem c_impl_sortByDistance_1__p3__p24 {Af : Int × (List Int) × Int} {Bp : Int × (List Int) × Int} {Bt : Int} {Bu : List Int} {Ag : Option Addr} {Ah : Nat} {Bv : Option Addr} {Bw : Nat} {By Bz Ca : Nat} {Cb Cc : List Value} {Cd : Option Addr} {Ce : Nat} {Cf Cg Ci : Nat} {Cj Ck : List Value} {r : Int} (h : M.impl_sortByDistance_1__p3__p24 Af Bp Bt Bu = some r) :
    Cal2 Try.prog 88 [(.agg #[(I Af.1), (Sl Ag Af.2.1 Ah), (I Af.2.2)]), (.agg #[(I Bp.1), (Sl Bv Bp.2.1 Bw), (I Bp.2.2)]), (pt Bz Ca), (pt Cg Ci)] [Ch.ro 0 (Sl Ag Af.2.1 Ah) Af.2.1, Ch.ro 0 (Sl Bv Bp.2.1 Bw) Bp.2.1, Ch.bx By Bz Ca [(I Bt)] Cb Cc, Ch.bx Cf Cg Ci [(Sl Cd Bu Ce)] Cj Ck, Ch.ro 0 (Sl Cd Bu Ce) Bu] (fun n0 v L => v = (I r) ∧ L = [Ch.bx By Bz Ca [(I Bt)] Cb Cc, Ch.bx Cf Cg Ci [(Sl Cd Bu Ce)] Cj Ck]) := by
 refine cal2 (n := 16) Try.func88 rfl rfl rfl rfl ?_
 intro S0 σ0 n0 hn0 H
 unfold M.impl_sortByDistance_1__p3__p24 at h
 refine c_seq (rg (st_ex (ex_box (cs := [(I Af.1), (Sl Ag Af.2.1 Ah), (I Af.2.2)]) H hn0 rfl rfl) wn ?_))
 rintro _ σ2 ⟨b1, rfl, H, -⟩
 refine st_ex (ex_box (cs := [(I Bp.1), (Sl Bv Bp.2.1 Bw), (I Bp.2.2)]) H hn0 rfl rfl) wn ?_
 rintro _ σ4 ⟨b3, rfl, H, -⟩
 refine st (v := (I 0)) (rv_assign rfl) (w_end (q_then (c_seq ?_)))
 have hc5 := H.cells 1 rfl
 have hc6 := H.cell (u := (I Bt)) (o' := Ca) 4 0 rfl rfl rfl
 have hc7 := H.cell (u := (Sl Cd Bu Ce)) (o' := Ci) 5 0 rfl rfl rfl
 obtain ⟨r8, hx9, h'⟩ := bind_some h
 clear h
 have h := h'; clear h'
 have hc10 := c_impl_hitOf (Ag := Ag) (Ah := Ah) (Bn := Cd) (Bo := Ce) hx9
 have hc11 := H.cells 0 rfl
 have hc12 := H.cell (u := (I Bt)) (o' := Ca) 4 0 rfl rfl rfl
 have hc13 := H.cell (u := (Sl Cd Bu Ce)) (o' := Ci) 5 0 rfl rfl rfl
 have Hs := H
 refine rg2 (σ := σ4) (Nm := Unit) 7 [3] [[false], [true]] [[(0, 0)], [(0, 0)], [(0, 0)], [(0, 1)], [(0, 0), (1, 1)], [(0, 0), (1, 1)], [(0, 0), (1, 1)]] 1 [fun _ => fun σm => Hp S0 σ0 σm [Ch.bx n0 b3 0 [(I Bp.1), (Sl Bv Bp.2.1 Bw), (I Bp.2.2)] [] [], Ch.bx n0 b1 0 [(I Af.1), (Sl Ag Af.2.1 Ah), (I Af.2.2)] [] [], Ch.ro 0 (Sl Ag Af.2.1 Ah) Af.2.1, Ch.ro 0 (Sl Bv Bp.2.1 Bw) Bp.2.1, Ch.bx By Bz Ca [(I Bt)] Cb Cc, Ch.bx Cf Cg Ci [(Sl Cd Bu Ce)] Cj Ck, Ch.ro 0 (Sl Cd Bu Ce) Bu] ∧ Md (cov []) σ4 σm, fun _ => fun σm => Hp S0 σ0 σm [Ch.bx n0 b3 0 [(I Bp.1), (Sl Bv Bp.2.1 Bw), (I Bp.2.2)] [] [], Ch.bx n0 b1 0 [(I Af.1), (Sl Ag Af.2.1 Ah), (I Af.2.2)] [] [], Ch.ro 0 (Sl Ag Af.2.1 Ah) Af.2.1, Ch.ro 0 (Sl Bv Bp.2.1 Bw) Bp.2.1, Ch.bx By Bz Ca [(I Bt)] Cb Cc, Ch.bx Cf Cg Ci [(Sl Cd Bu Ce)] Cj Ck, Ch.ro 0 (Sl Cd Bu Ce) Bu] ∧ Md (cov []) σ4 σm] [fun _ => (.agg #[(I Af.1), (Sl Ag Af.2.1 Ah), (I Af.2.2)]), fun _ => (I Bt), fun _ => (Sl Cd Bu Ce), fun _ => (.agg #[(I r8.1), (I r8.2)]), fun _ => (.agg #[(I Bp.1), (Sl Bv Bp.2.1 Bw), (I Bp.2.2)]), fun _ => (I Bt), fun _ => (Sl Cd Bu Ce)] () (by kernel_rfl) (by kernel_rfl) ?_ ?_ ?_
 ·intro σm m0
  exact ⟨H.grow (m0.mono fun _ h => h.elim), m0⟩
 ·refine all_cons (by
    refine ⟨?_, ?_⟩
    ·intro _nm ρ σm hJ hoff hdep
     have e4 := look_off (N := 16) (hoff 4 rfl) rfl
     obtain ⟨H, m⟩ := id hJ
     have hc5 := H.cells 1 rfl
     exact dp_v (v := (.agg #[(I Af.1), (Sl Ag Af.2.1 Ah), (I Af.2.2)])) wn (rv_load (cs := [(I Af.1), (Sl Ag Af.2.1 Ah), (I Af.2.2)]) Try.underlying34 rfl ti34 e4 rfl hc5) rfl hJ
    trivial) ?_
  refine all_cons (by
    refine ⟨?_, ?_⟩
    ·intro _nm ρ σm hJ hoff hdep
     have e2 := look_off (N := 16) (hoff 2 rfl) rfl
     obtain ⟨H, m⟩ := id hJ
     have hc6 := H.cell (u := (I Bt)) (o' := Ca) 4 0 rfl rfl rfl
     exact dp_v (v := (I Bt)) wn (rv_load1 Try.underlying3 rfl e2 hc6) rfl hJ
    trivial) ?_
  refine all_cons (by
    refine ⟨?_, ?_⟩
    ·intro _nm ρ σm hJ hoff hdep
     have e3 := look_off (N := 16) (hoff 3 rfl) rfl
     obtain ⟨H, m⟩ := id hJ
     have hc7 := H.cell (u := (Sl Cd Bu Ce)) (o' := Ci) 5 0 rfl rfl rfl
     exact dp_v (v := (Sl Cd Bu Ce)) wn (rv_load1 Try.underlying29 rfl e3 hc7) rfl hJ
    trivial) ?_
  refine all_cons (by
    refine ⟨?_, ?_⟩
    ·intro _nm ρ σm hJ hoff hdep
     have e7 : look 16 ρ 7 = (.agg #[(I Af.1), (Sl Ag Af.2.1 Ah), (I Af.2.2)]) := hdep 0 rfl rfl 7 rfl
     have e8 : look 16 ρ 8 = (I Bt) := hdep 1 rfl rfl 8 rfl
     have e9 : look 16 ρ 9 = (Sl Cd Bu Ce) := hdep 2 rfl rfl 9 rfl
     obtain ⟨H, m⟩ := id hJ
     refine dp_cx wn (cx_call hc10 (ent_f hc10.fn (by show [look 16 ρ 7, look 16 ρ 8, look 16 ρ 9] = _; rw [e7, e8, e9])) hn0 (H.sel' [2, 6, 0, 1, 2, 3, 4, 5, 6] rfl rfl : Hp S0 σ0 _ ([_, _] ++ _))) ?_
     rintro _ σq ⟨_, ⟨rfl, rfl⟩, H2, m2⟩
     exact ⟨_, (), rfl, rfl, ⟨H2.sel' [0, 1, 2, 3, 4, 5, 6] rfl rfl, m.comp0 (m2.mono (fun i h => by simp [cov, Ch.ro] at h))⟩, stab [0, 1, 2, 4, 5, 6] (by kernel_rfl) ⟨rfl, rfl, rfl, rfl, rfl, rfl, trivial⟩⟩
    trivial) ?_
  refine all_cons (by
    refine ⟨?_, ?_⟩
    ·intro _nm ρ σm hJ hoff hdep
     have e5 := look_off (N := 16) (hoff 5 rfl) rfl
     obtain ⟨H, m⟩ := id hJ
     have hc11 := H.cells 0 rfl
     exact dp_v (v := (.agg #[(I Bp.1), (Sl Bv Bp.2.1 Bw), (I Bp.2.2)])) wn (rv_load (cs := [(I Bp.1), (Sl Bv Bp.2.1 Bw), (I Bp.2.2)]) Try.underlying34 rfl ti34 e5 rfl hc11) rfl hJ
    refine ⟨?_, ?_⟩
    ·intro _nm ρ σm hJ hoff hdep
     have e5 := look_off (N := 16) (hoff 5 rfl) rfl
     obtain ⟨H, m⟩ := id hJ
     have hc11 := H.cells 0 rfl
     exact dp_v (v := (.agg #[(I Bp.1), (Sl Bv Bp.2.1 Bw), (I Bp.2.2)])) wn (rv_load (cs := [(I Bp.1), (Sl Bv Bp.2.1 Bw), (I Bp.2.2)]) Try.underlying34 rfl ti34 e5 rfl hc11) rfl hJ
    trivial) ?_
  refine all_cons (by
    refine ⟨?_, ?_⟩
    ·intro _nm ρ σm hJ hoff hdep
     have e2 := look_off (N := 16) (hoff 2 rfl) rfl
     obtain ⟨H, m⟩ := id hJ
     have hc12 := H.cell (u := (I Bt)) (o' := Ca) 4 0 rfl rfl rfl
     exact dp_v (v := (I Bt)) wn (rv_load1 Try.underlying3 rfl e2 hc12) rfl hJ
    refine ⟨?_, ?_⟩
    ·intro _nm ρ σm hJ hoff hdep
     have e2 := look_off (N := 16) (hoff 2 rfl) rfl
     obtain ⟨H, m⟩ := id hJ
     have hc12 := H.cell (u := (I Bt)) (o' := Ca) 4 0 rfl rfl rfl
     exact dp_v (v := (I Bt)) wn (rv_load1 Try.underlying3 rfl e2 hc12) rfl hJ
    trivial) ?_
  refine all_cons (by
    refine ⟨?_, ?_⟩
    ·intro _nm ρ σm hJ hoff hdep
     have e3 := look_off (N := 16) (hoff 3 rfl) rfl
     obtain ⟨H, m⟩ := id hJ
     have hc13 := H.cell (u := (Sl Cd Bu Ce)) (o' := Ci) 5 0 rfl rfl rfl
     exact dp_v (v := (Sl Cd Bu Ce)) wn (rv_load1 Try.underlying29 rfl e3 hc13) rfl hJ
    refine ⟨?_, ?_⟩
    ·intro _nm ρ σm hJ hoff hdep
     have e3 := look_off (N := 16) (hoff 3 rfl) rfl
     obtain ⟨H, m⟩ := id hJ
     have hc13 := H.cell (u := (Sl Cd Bu Ce)) (o' := Ci) 5 0 rfl rfl rfl
     exact dp_v (v := (Sl Cd Bu Ce)) wn (rv_load1 Try.underlying29 rfl e3 hc13) rfl hJ
    trivial) ?_
  exact all_nil
 ·intro _nm ρ σ14 hJ hoff hrel
  have e2 := look_off (N := 16) (hoff 2 rfl) rfl
  have e3 := look_off (N := 16) (hoff 3 rfl) rfl
  have e10 := hrel 3 rfl 10 rfl
  have e11 := hrel 4 rfl 11 rfl
  have e12 := hrel 5 rfl 12 rfl
  have e13 := hrel 6 rfl 13 rfl
  obtain ⟨H, -⟩ := (show Hp S0 σ0 σ14 [Ch.bx n0 b3 0 [(I Bp.1), (Sl Bv Bp.2.1 Bw), (I Bp.2.2)] [] [], Ch.bx n0 b1 0 [(I Af.1), (Sl Ag Af.2.1 Ah), (I Af.2.2)] [] [], Ch.ro 0 (Sl Ag Af.2.1 Ah) Af.2.1, Ch.ro 0 (Sl Bv Bp.2.1 Bw) Bp.2.1, Ch.bx By Bz Ca [(I Bt)] Cb Cc, Ch.bx Cf Cg Ci [(Sl Cd Bu Ce)] Cj Ck, Ch.ro 0 (Sl Cd Bu Ce) Bu] ∧ Md (cov []) σ4 σ14 from hJ)
  clear hJ Hs
  rw [fr_lookL (L := [(2, (pt Bz Ca)), (3, (pt Cg Ci)), (10, (.agg #[(I r8.1), (I r8.2)])), (11, (.agg #[(I Bp.1), (Sl Bv Bp.2.1 Bw), (I Bp.2.2)])), (12, (I Bt)), (13, (Sl Cd Bu Ce))]) ⟨e2, e3, e10, e11, e12, e13, trivial⟩]
  clear hoff hrel e2 e3 e10 e11 e12 e13
  obtain ⟨r15, hx16, h'⟩ := bind_some h
  clear h
  have h := h'; clear h'
  have hc17 := c_impl_hitOf (Ag := Bv) (Ah := Bw) (Bn := Cd) (Bo := Ce) hx16
  refine st_call (cx_call hc17 (ent_f hc17.fn rfl) hn0 (H.sel' [3, 6, 0, 1, 2, 3, 4, 5, 6] rfl rfl : Hp S0 σ0 _ ([_, _] ++ _))) wn ?_
  rintro _ σ18 ⟨_, ⟨rfl, rfl⟩, H, -⟩
  replace H : Hp _ _ _ [_, _, _, _, _, _, _] := H
  obtain ⟨r19, hx20, h'⟩ := bind_some h
  clear h
  have h := h'; clear h'
  have hc21 := c_impl_compareHits hx20
  refine st_call (cx_call hc21 (ent_f hc21.fn rfl) hn0 (H.sel' [0, 1, 2, 3, 4, 5, 6] rfl rfl : Hp S0 σ0 _ ([] ++ _))) wn ?_
  rintro _ σ22 ⟨_, ⟨rfl, rfl⟩, H, -⟩
  replace H : Hp _ _ _ [_, _, _, _, _, _, _] := H
  refine st (v := (I r19)) (rv_assign rfl) (w_end (q_then (c_ret ?_)))
  obtain rfl := Option.some.inj h
  exact fin_ret (v := (I r19)) (results_ok Try.results88 (res_tmp (v := (I r19)) rfl res_nil) rfl) ⟨rfl, rfl⟩ (H.sel' [4, 5] rfl rfl)

theorem c_slices_insertionSortCmpFunc_impl_Item__impl_sortByDistance_1 {Cl : List (Int × (List Int) × Int)} {Av : Int} {Aw : Int} {Cm : Int} {Cn : List Int} {Cp : Option Addr} {Cq : Nat} {Cr Cs Ct : Nat} {Cu Cv : List Value} {Cw : Option Addr} {Cy : Nat} {Cz Da Db : Nat} {Dc Dd : List Value} {r : (List (Int × (List Int) × Int))} (h : M.slices_insertionSortCmpFunc_impl_Item__impl_sortByDistance_1 Cl Av Aw Cm Cn = some r) :
    Cal2 Try.prog 112 [(Sl Cp Cl Cq), (I Av), (I Aw), (.func (.func 88) #[] #[(pt Cs Ct), (pt Da Db)])] [Ch.own 0 0 (Sl Cp Cl Cq) Cl, Ch.bx Cr Cs Ct [(I Cm)] Cu Cv, Ch.bx Cz Da Db [(Sl Cw Cn Cy)] Dc Dd, Ch.ro 0 (Sl Cw Cn Cy) Cn] (fun n0 v L => v = (.tuple #[]) ∧ L = [Ch.own 0 0 (Sl Cp r Cq) r, Ch.bx Cr Cs Ct [(I Cm)] Cu Cv, Ch.bx Cz Da Db [(Sl Cw Cn Cy)] Dc Dd] ∧ r.length = Cl.length) := by
 refine cal2 (n := 53) Try.func112 rfl rfl rfl rfl ?_
 intro S0 σ0 n0 hn0 H
 unfold M.slices_insertionSortCmpFunc_impl_Item__impl_sortByDistance_1 at h
 refine c_seq (rg (st (v := (I Av)) (rv_move rfl) (st (v := (I (w64 (Av + 1)))) (rv_add (a := Av) (b := 1) rfl rfl) (st (v := (I (w64 (Av + 1)))) (rv_assign rfl) (w_end (q_then ?_))))))
 obtain ⟨o1, hj, h'⟩ := bind_some h
 clear h
 refine c_cut (fun e a w => e = .normal ∧ ∃ (ρ : Nat → Value) (σ : St), a = fr 53 (updL ρ [(0, (Sl Cp o1 Cq)), (3, (.func (.func 88) #[] #[(pt Cs Ct), (pt Da Db)]))]) ∧ w = σ.w ∧ Hp S0 σ0 σ [Ch.own 0 0 (Sl Cp o1 Cq) o1, Ch.bx Cr Cs Ct [(I Cm)] Cu Cv, Ch.ro 0 (Sl Cw Cn Cy) Cn, Ch.bx Cz Da Db [(Sl Cw Cn Cy)] Dc Dd] ∧ o1.length = Cl.length) ?_ ?_
 ·clear h'
  rename _ = some o1 => h
  refine c_blk (wp_loopM _ h (fun s2 a w => ∃ (ρ : Nat → Value) (σ : St), a = fr 53 (updL ρ [(0, (Sl Cp s2.1 Cq)), (1, (I Av)), (2, (I Aw)), (3, (.func (.func 88) #[] #[(pt Cs Ct), (pt Da Db)])), (8, (I s2.2))]) ∧ w = σ.w ∧ Hp S0 σ0 σ [Ch.own 0 0 (Sl Cp s2.1 Cq) s2.1, Ch.bx Cr Cs Ct [(I Cm)] Cu Cv, Ch.ro 0 (Sl Cw Cn Cy) Cn, Ch.bx Cz Da Db [(Sl Cw Cn Cy)] Dc Dd] ∧ s2.1.length = Cl.length) ⟨_, σ0, fr_join ⟨rfl, rfl, rfl, rfl, rfl, trivial⟩, rfl, H.sel' [0, 1, 3, 2] rfl rfl, rfl⟩ ?_)
  clear h H
  rintro s2 a w o ⟨ρ, σ3, rfl, rfl, H, hn4⟩ h hres
  refine c_seq (c_seq (rg (st (v := (I s2.2)) (rv_move rfl) (st (v := (I Aw)) (rv_move rfl) (st (v := (B (decide (s2.2 < Aw)))) (rv_lss (a := s2.2) (b := Aw) rfl rfl) (w_end (q_then ?_)))))))
  refine cd_cond (decide (s2.2 < Aw)) rfl (fun hb5 => ?_) (fun hb5 => ?_)
  ·replace h := bif_t hb5 h
   refine c_skip (q_then (c_seq (c_blk (c_seq (rg (st (v := (I s2.2)) (rv_move rfl) (st (v := (I s2.2)) (rv_assign rfl) (w_end (q_then ?_)))))))))
   obtain ⟨o6, hj, h'⟩ := bind_some h
   clear h
   refine c_cut (fun e a w => e = .normal ∧ ∃ (ρ : Nat → Value) (σ : St), a = fr 53 (updL ρ [(0, (Sl Cp o6 Cq)), (1, (I Av)), (2, (I Aw)), (3, (.func (.func 88) #[] #[(pt Cs Ct), (pt Da Db)])), (8, (I s2.2))]) ∧ w = σ.w ∧ Hp S0 σ0 σ [Ch.own 0 0 (Sl Cp o6 Cq) o6, Ch.bx Cr Cs Ct [(I Cm)] Cu Cv, Ch.ro 0 (Sl Cw Cn Cy) Cn, Ch.bx Cz Da Db [(Sl Cw Cn Cy)] Dc Dd] ∧ o6.length = s2.1.length) ?_ ?_
   ·clear h'
    rename _ = some o6 => h
    refine c_blk (wp_loopM _ h (fun s7 a w => ∃ (ρ : Nat → Value) (σ : St), a = fr 53 (updL ρ [(0, (Sl Cp s7.1 Cq)), (1, (I Av)), (2, (I Aw)), (3, (.func (.func 88) #[] #[(pt Cs Ct), (pt Da Db)])), (8, (I s2.2)), (9, (I s7.2))]) ∧ w = σ.w ∧ Hp S0 σ0 σ [Ch.own 0 0 (Sl Cp s7.1 Cq) s7.1, Ch.bx Cr Cs Ct [(I Cm)] Cu Cv, Ch.ro 0 (Sl Cw Cn Cy) Cn, Ch.bx Cz Da Db [(Sl Cw Cn Cy)] Dc Dd] ∧ s7.1.length = s2.1.length) ⟨_, σ3, fr_join ⟨rfl, rfl, rfl, rfl, rfl, rfl, trivial⟩, rfl, H.sel' [0, 1, 2, 3] rfl rfl, rfl⟩ ?_)
    clear h H
    rintro s7 a w o ⟨ρ, σ8, rfl, rfl, H, hn9⟩ h hres
    refine c_seq (c_seq ?_)
    obtain ⟨o10, hj, h'⟩ := bind_some h
    clear h
    refine c_cut (fun e a w => e = .normal ∧ ∃ (ρ : Nat → Value) (σ : St), a = fr 53 (updL ρ [(0, (Sl Cp s7.1 Cq)), (1, (I Av)), (2, (I Aw)), (3, (.func (.func 88) #[] #[(pt Cs Ct), (pt Da Db)])), (8, (I s2.2)), (9, (I s7.2)), (34, (B o10))]) ∧ w = σ.w ∧ Hp S0 σ0 σ [Ch.own 0 0 (Sl Cp s7.1 Cq) s7.1, Ch.bx Cr Cs Ct [(I Cm)] Cu Cv, Ch.ro 0 (Sl Cw Cn Cy) Cn, Ch.bx Cz Da Db [(Sl Cw Cn Cy)] Dc Dd]) ?_ ?_
    ·clear h'
     rename _ = some o10 => h
     refine rgP (σ := σ8) 14 (by kernel_rfl) (by kernel_rfl) (by kernel_rfl) ?_
     refine sq (v := (I s7.2)) (rv_move rfl) (sq (v := (I Av)) (rv_move rfl) (sq (v := (B (decide (Av < s7.2)))) (rv_gtr (a := s7.2) (b := Av) rfl rfl) (sq (v := (B (decide (Av < s7.2)))) (rv_move rfl) ?_)))
     rcases Bool.eq_false_or_eq_true (decide (Av < s7.2)) with hb11 | hb11
     ·replace h := bif_t hb11 h
      refine sq_g (v := (.func (.func 88) #[] #[(pt Cs Ct), (pt Da Db)])) (congrArg some hb11) (rv_move rfl) (sq_g (v := (Sl Cp s7.1 Cq)) (congrArg some hb11) (rv_move rfl) (sq_g (v := (I s7.2)) (congrArg some hb11) (rv_move rfl) ?_))
      obtain ⟨x12, hx13, h'⟩ := bind_some h
      clear h
      have h := h'; clear h'
      obtain ⟨b15, o16, hi14, -⟩ := (H.own 0 rfl).ix hx13
      refine sq_g (v := (pt b15 o16)) (congrArg some hb11) (rv_ix Try.underlying23 ti34 rfl rfl hi14) ?_
      obtain ⟨_, ⟨_, _, rfl, rfl, ⟨_, _, rfl, ⟨_, rfl, hR21⟩, rfl⟩⟩, hl17, hc18⟩ := ((H.own 0 rfl).at hx13 hi14).cells
      obtain ⟨a19, c20, rfl⟩ := hR21.isSl
      replace H := H.add (d := Ch.ro 0 (Sl a19 x12.2.1 c20) x12.2.1) hR21 (fun _ h => h)
      clear hR21
      refine sq_g (v := (.agg #[(I x12.1), (Sl a19 x12.2.1 c20), (I x12.2.2)])) (congrArg some hb11) (rv_load Try.underlying34 rfl ti34 rfl hl17 hc18) (sq_g (v := (Sl Cp s7.1 Cq)) (congrArg some hb11) (rv_move rfl) (sq_g (v := (I s7.2)) (congrArg some hb11) (rv_move rfl) (sq_g (v := (I (w64 (s7.2 - 1)))) (congrArg some hb11) (rv_sub (a := s7.2) (b := 1) rfl rfl) ?_)))
      obtain ⟨x22, hx23, h'⟩ := bind_some h
      clear h
      have h := h'; clear h'
      obtain ⟨b25, o26, hi24, -⟩ := (H.own 1 rfl).ix hx23
      refine sq_g (v := (pt b25 o26)) (congrArg some hb11) (rv_ix Try.underlying23 ti34 rfl rfl hi24) ?_
      obtain ⟨_, ⟨_, _, rfl, rfl, ⟨_, _, rfl, ⟨_, rfl, hR31⟩, rfl⟩⟩, hl27, hc28⟩ := ((H.own 1 rfl).at hx23 hi24).cells
      obtain ⟨a29, c30, rfl⟩ := hR31.isSl
      replace H := H.add (d := Ch.ro 0 (Sl a29 x22.2.1 c30) x22.2.1) hR31 (fun _ h => h)
      clear hR31
      refine sq_g (v := (.agg #[(I x22.1), (Sl a29 x22.2.1 c30), (I x22.2.2)])) (congrArg some hb11) (rv_load Try.underlying34 rfl ti34 rfl hl27 hc28) (sq_end ?_)
      intro σ32 hm33
      replace H := H.grow (hm33.mono fun _ h => h); clear hm33
      obtain ⟨r34, hx35, h'⟩ := bind_some h
      clear h
      have h := h'; clear h'
      have hc36 := c_impl_sortByDistance_1__p3__p24 (Ag := a19) (Ah := c20) (Bv := a29) (Bw := c30) (By := Cr) (Bz := Cs) (Ca := Ct) (Cb := Cu) (Cc := Cv) (Cf := Cz) (Cg := Da) (Ci := Db) (Cj := Dc) (Ck := Dd) (Cd := Cw) (Ce := Cy) hx35
      refine st_call (cx_call hc36 (ent_v (cap := [(pt Cs Ct), (pt Da Db)]) hc36.fn rfl rfl) hn0 (H.sel' [1, 0, 3, 5, 4, 0, 1, 2, 4] rfl rfl : Hp S0 σ0 _ ([_, _, _, _, _] ++ _))) (wanted_yes rfl (by exact (congrArg some hb11))) ?_
      rintro _ σ37 ⟨_, ⟨rfl, rfl⟩, H, -⟩
      replace H : Hp _ _ _ [_, _, _, _, _, _] := H
      refine st_g (v := (B (decide (r34 < 0)))) (congrArg some hb11) (rv_lss (a := r34) (b := 0) rfl rfl) (st (v := (B (decide (r34 < 0)))) (rv_pick_t (congrArg B hb11) rfl) (w_end ?_))
      obtain rfl := Option.some.inj h
      exact ⟨rfl, _, σ37, fr_join ⟨rfl, rfl, rfl, rfl, rfl, rfl, rfl, trivial⟩, rfl, H.sel' [4, 0, 5, 1] rfl rfl⟩
     ·replace h := bif_f hb11 h
      refine sq_skip (congrArg some hb11) (sq_skip (congrArg some hb11) (sq_skip (congrArg some hb11) (sq_skip (congrArg some hb11) (sq_skip (congrArg some hb11) (sq_skip (congrArg some hb11) (sq_skip (congrArg some hb11) (sq_skip (congrArg some hb11) (sq_skip (congrArg some hb11) (sq_skip (congrArg some hb11) (sq_end ?_))))))))))
      intro σ38 hm39
      replace H := H.grow (hm39.mono fun _ h => h); clear hm39
      refine st_skip (congrArg some hb11) (st_skip (congrArg some hb11) (st (v := (B false)) (rv_pick_f (congrArg B hb11) rfl) (w_end ?_)))
      obtain rfl := Option.some.inj h
      exact ⟨rfl, _, σ38, fr_join ⟨rfl, rfl, rfl, rfl, rfl, rfl, rfl, trivial⟩, rfl, H.sel' [0, 1, 2, 3] rfl rfl⟩
    ·clear hj
     have h := h'
     clear h' H
     rintro e a w ⟨rfl, ρ, σ40, rfl, rfl, H⟩
     refine q_then ?_
     refine cd_cond o10 rfl (fun hb41 => ?_) (fun hb41 => ?_)
     ·replace h := bif_t hb41 h
      refine c_skip (q_then (c_seq (c_blk ?_)))
      obtain ⟨x42, hx43, h'⟩ := bind_some h
      clear h
      have h := h'; clear h'
      obtain ⟨b45, o46, hi44, -⟩ := (H.own 0 rfl).ix hx43
      obtain ⟨_, ⟨_, _, rfl, rfl, ⟨_, _, rfl, ⟨_, rfl, hR51⟩, rfl⟩⟩, hl47, hc48⟩ := ((H.own 0 rfl).at hx43 hi44).cells
      obtain ⟨a49, c50, rfl⟩ := hR51.isSl
      replace H := H.add (d := Ch.ro 0 (Sl a49 x42.2.1 c50) x42.2.1) hR51 (fun _ h => h)
      clear hR51
      obtain ⟨x52, hx53, h'⟩ := bind_some h
      clear h
      have h := h'; clear h'
      obtain ⟨b55, o56, hi54, -⟩ := (H.own 1 rfl).ix hx53
      obtain ⟨_, ⟨_, _, rfl, rfl, ⟨_, _, rfl, ⟨_, rfl, hR61⟩, rfl⟩⟩, hl57, hc58⟩ := ((H.own 1 rfl).at hx53 hi54).cells
      obtain ⟨a59, c60, rfl⟩ := hR61.isSl
      replace H := H.add (d := Ch.ro 0 (Sl a59 x52.2.1 c60) x52.2.1) hR61 (fun _ h => h)
      clear hR61
      obtain ⟨x62, hx63, h'⟩ := bind_some h
      clear h
      have h := h'; clear h'
      obtain ⟨b65, o66, hi64, -⟩ := (H.own 2 rfl).ix hx63
      have Hs := H
      refine rg2 (σ := σ40) (Nm := Unit) 16 [15] [[false], [true]] [[(0, 0)], [(0, 0)], [(0, 0), (1, 1)], [(0, 0), (1, 1)], [(0, 0), (1, 1)], [(0, 0)], [(0, 0)], [(0, 0)], [(0, 0)], [(0, 0)], [(0, 0)], [(0, 0)], [(0, 0)], [(0, 0)], [(0, 0)], [(0, 1)]] 1 [fun _ => fun σm => Hp S0 σ0 σm [Ch.ro 0 (Sl a59 x52.2.1 c60) x52.2.1, Ch.ro 0 (Sl a49 x42.2.1 c50) x42.2.1, Ch.own 0 0 (Sl Cp s7.1 Cq) s7.1, Ch.bx Cr Cs Ct [(I Cm)] Cu Cv, Ch.ro 0 (Sl Cw Cn Cy) Cn, Ch.bx Cz Da Db [(Sl Cw Cn Cy)] Dc Dd] ∧ Md (cov []) σ40 σm, fun _ => fun σm => Hp S0 σ0 σm [Ch.own 0 0 (Sl Cp s7.1 Cq) (s7.1.set s7.2.toNat (x42.1, x42.2.1, x42.2.2)), Ch.ro 0 (Sl a59 x52.2.1 c60) x52.2.1, Ch.ro 0 (Sl a49 x42.2.1 c50) x42.2.1, Ch.bx Cr Cs Ct [(I Cm)] Cu Cv, Ch.ro 0 (Sl Cw Cn Cy) Cn, Ch.bx Cz Da Db [(Sl Cw Cn Cy)] Dc Dd] ∧ Md (fun i => (cov []) i ∨ (fun b => blk (Sl Cp s7.1 Cq) = some b) i) σ40 σm] [fun _ => (Sl Cp s7.1 Cq), fun _ => (I s7.2), fun _ => (Sl Cp s7.1 Cq), fun _ => (I s7.2), fun _ => (I (w64 (s7.2 - 1))), fun _ => (Sl Cp s7.1 Cq), fun _ => (I s7.2), fun _ => (I (w64 (s7.2 - 1))), fun _ => (pt b45 o46), fun _ => (.agg #[(I x42.1), (Sl a49 x42.2.1 c50), (I x42.2.2)]), fun _ => (Sl Cp s7.1 Cq), fun _ => (I s7.2), fun _ => (pt b55 o56), fun _ => (.agg #[(I x52.1), (Sl a59 x52.2.1 c60), (I x52.2.2)]), fun _ => (pt b65 o66), fun _ => undef] () (by kernel_rfl) (by kernel_rfl) ?_ ?_ ?_
      ·intro σm m0
       exact ⟨H.grow (m0.mono fun _ h => h.elim), m0⟩
      ·refine ac rfl (by
         intro k _nm ρ σm hJ hoff hdep
         have e0 := look_off (N := 53) (hoff 0 rfl) rfl
         exact dp_v (v := (Sl Cp s7.1 Cq)) wn (rv_move e0) rfl hJ) ?_
       refine ac rfl (by
         intro k _nm ρ σm hJ hoff hdep
         have e9 := look_off (N := 53) (hoff 9 rfl) rfl
         exact dp_v (v := (I s7.2)) wn (rv_move e9) rfl hJ) ?_
       refine ac rfl (by
         intro k _nm ρ σm hJ hoff hdep
         have e0 := look_off (N := 53) (hoff 0 rfl) rfl
         exact dp_v (v := (Sl Cp s7.1 Cq)) wn (rv_move e0) rfl hJ) ?_
       refine ac rfl (by
         intro k _nm ρ σm hJ hoff hdep
         have e9 := look_off (N := 53) (hoff 9 rfl) rfl
         exact dp_v (v := (I s7.2)) wn (rv_move e9) rfl hJ) ?_
       refine ac rfl (by
         intro k _nm ρ σm hJ hoff hdep
         have e40 := hdep 3 rfl rfl 40 rfl
         exact dp_v (v := (I (w64 (s7.2 - 1)))) wn (rv_sub (a := s7.2) (b := 1) e40 rfl) rfl hJ) ?_
       refine ac rfl (by
         intro k _nm ρ σm hJ hoff hdep
         have e0 := look_off (N := 53) (hoff 0 rfl) rfl
         exact dp_v (v := (Sl Cp s7.1 Cq)) wn (rv_move e0) rfl hJ) ?_
       refine ac rfl (by
         intro k _nm ρ σm hJ hoff hdep
         have e9 := look_off (N := 53) (hoff 9 rfl) rfl
         exact dp_v (v := (I s7.2)) wn (rv_move e9) rfl hJ) ?_
       refine ac rfl (by
         intro k _nm ρ σm hJ hoff hdep
         have e43 := hdep 6 rfl rfl 43 rfl
         exact dp_v (v := (I (w64 (s7.2 - 1)))) wn (rv_sub (a := s7.2) (b := 1) e43 rfl) rfl hJ) ?_
       refine ac rfl (by
         intro k _nm ρ σm hJ hoff hdep
         have e42 := hdep 5 rfl rfl 42 rfl
         have e44 := hdep 7 rfl rfl 44 rfl
         exact dp_v (v := (pt b45 o46)) wn (rv_ix Try.underlying23 ti34 e42 e44 hi44) rfl hJ) ?_
       refine all_cons (by
         refine ⟨?_, ?_⟩
         ·intro _nm ρ σm hJ hoff hdep
          have e45 := hdep 8 rfl rfl 45 rfl
          obtain ⟨H, m⟩ := id hJ
          replace hc48 := fun j hj => m.hcell (hc48 j hj) nocov
          exact dp_v (v := (.agg #[(I x42.1), (Sl a49 x42.2.1 c50), (I x42.2.2)])) wn (rv_load Try.underlying34 rfl ti34 e45 hl47 hc48) rfl hJ
         trivial) ?_
       refine ac rfl (by
         intro k _nm ρ σm hJ hoff hdep
         have e0 := look_off (N := 53) (hoff 0 rfl) rfl
         exact dp_v (v := (Sl Cp s7.1 Cq)) wn (rv_move e0) rfl hJ) ?_
       refine ac rfl (by
         intro k _nm ρ σm hJ hoff hdep
         have e9 := look_off (N := 53) (hoff 9 rfl) rfl
         exact dp_v (v := (I s7.2)) wn (rv_move e9) rfl hJ) ?_
       refine ac rfl (by
         intro k _nm ρ σm hJ hoff hdep
         have e47 := hdep 10 rfl rfl 47 rfl
         have e48 := hdep 11 rfl rfl 48 rfl
         exact dp_v (v := (pt b55 o56)) wn (rv_ix Try.underlying23 ti34 e47 e48 hi54) rfl hJ) ?_
       refine all_cons (by
         refine ⟨?_, ?_⟩
         ·intro _nm ρ σm hJ hoff hdep
          have e49 := hdep 12 rfl rfl 49 rfl
          obtain ⟨H, m⟩ := id hJ
          replace hc58 := fun j hj => m.hcell (hc58 j hj) nocov
          exact dp_v (v := (.agg #[(I x52.1), (Sl a59 x52.2.1 c60), (I x52.2.2)])) wn (rv_load Try.underlying34 rfl ti34 e49 hl57 hc58) rfl hJ
         trivial) ?_
       refine ac rfl (by
         intro k _nm ρ σm hJ hoff hdep
         have e37 := hdep 0 rfl rfl 37 rfl
         have e38 := hdep 1 rfl rfl 38 rfl
         exact dp_v (v := (pt b65 o66)) wn (rv_ix Try.underlying23 ti34 e37 e38 hi64) rfl hJ) ?_
       refine all_cons (by
         refine ⟨?_, ?_⟩
         ·intro _nm ρ σm hJ hoff hdep
          have e51 := hdep 14 rfl rfl 51 rfl
          have e46 := hdep 9 rfl rfl 46 rfl
          obtain ⟨H, m⟩ := id hJ
          refine dp_exS wn rfl (ex_store_own (e' := (x42.1, x42.2.1, x42.2.2)) (vs := [(I x42.1), (Sl a49 x42.2.1 c50), (I x42.2.2)]) (k := 0) H (i := 2) rfl ti34 hx63 hi64 e51 rfl e46 rfl rfl (Nat.le_of_ble_eq_true rfl) (by simp [plain]) (by rintro _ ⟨_, _, rfl, rfl, ⟨_, _, rfl, ⟨_, rfl, hR69⟩, rfl⟩⟩; exact ⟨[(I x42.1)], [(Sl a49 x42.2.1 c50), (I x42.2.2)], rfl, rfl, ⟨[(Sl a49 x42.2.1 c50)], [(I x42.2.2)], rfl, ⟨_, rfl, (H.ro 1 rfl)⟩, rfl⟩⟩)) ?_
          rintro σq ⟨H2, m2⟩
          exact ⟨_, (), rfl, ⟨H2.sel' [0, 1, 2, 3, 4, 5] rfl rfl, m.comp m2⟩, stab [0, 1, 2, 3, 4, 5, 6, 7, 8, 9, 10, 11, 12, 13, 14] (by kernel_rfl) ⟨rfl, rfl, rfl, rfl, rfl, rfl, rfl, rfl, rfl, rfl, rfl, rfl, rfl, rfl, rfl, trivial⟩⟩
         trivial) ?_
       exact all_nil
      ·intro _nm ρ σ70 hJ hoff hrel
       have e0 := look_off (N := 53) (hoff 0 rfl) rfl
       have e1 := look_off (N := 53) (hoff 1 rfl) rfl
       have e2 := look_off (N := 53) (hoff 2 rfl) rfl
       have e3 := look_off (N := 53) (hoff 3 rfl) rfl
       have e8 := look_off (N := 53) (hoff 8 rfl) rfl
       have e9 := look_off (N := 53) (hoff 9 rfl) rfl
       have e39 := hrel 2 rfl 39 rfl
       have e41 := hrel 4 rfl 41 rfl
       have e50 := hrel 13 rfl 50 rfl
       obtain ⟨H, -⟩ := (show Hp S0 σ0 σ70 [Ch.own 0 0 (Sl Cp s7.1 Cq) (s7.1.set s7.2.toNat (x42.1, x42.2.1, x42.2.2)), Ch.ro 0 (Sl a59 x52.2.1 c60) x52.2.1, Ch.ro 0 (Sl a49 x42.2.1 c50) x42.2.1, Ch.bx Cr Cs Ct [(I Cm)] Cu Cv, Ch.ro 0 (Sl Cw Cn Cy) Cn, Ch.bx Cz Da Db [(Sl Cw Cn Cy)] Dc Dd] ∧ Md (fun i => (cov []) i ∨ (fun b => blk (Sl Cp s7.1 Cq) = some b) i) σ40 σ70 from hJ)
       clear hJ Hs
       rw [fr_lookL (L := [(0, (Sl Cp s7.1 Cq)), (1, (I Av)), (2, (I Aw)), (3, (.func (.func 88) #[] #[(pt Cs Ct), (pt Da Db)])), (8, (I s2.2)), (9, (I s7.2)), (39, (Sl Cp s7.1 Cq)), (41, (I (w64 (s7.2 - 1)))), (50, (.agg #[(I x52.1), (Sl a59 x52.2.1 c60), (I x52.2.2)]))]) ⟨e0, e1, e2, e3, e8, e9, e39, e41, e50, trivial⟩]
       clear hoff hrel e0 e1 e2 e3 e8 e9 e39 e41 e50
       have hsl : (Sl Cp s7.1 Cq) = (Sl Cp (s7.1.set s7.2.toNat (x42.1, x42.2.1, x42.2.2)) Cq) := sl_len (by simp)
       rw [hsl]; rw [hsl] at H; clear hsl
       obtain ⟨x71, hx72, h'⟩ := bind_some h
       clear h
       have h := h'; clear h'
       obtain ⟨b74, o75, hi73, -⟩ := (H.own 0 rfl).ix hx72
       refine st (v := (pt b74 o75)) (rv_ix Try.underlying23 ti34 rfl rfl hi73) ?_
       refine st_exS (ex_store_own (e' := (x52.1, x52.2.1, x52.2.2)) (vs := [(I x52.1), (Sl a59 x52.2.1 c60), (I x52.2.2)]) (k := 0) H (i := 0) rfl ti34 hx72 hi73 rfl rfl rfl rfl rfl (Nat.le_of_ble_eq_true rfl) (by simp [plain]) (by rintro _ ⟨_, _, rfl, rfl, ⟨_, _, rfl, ⟨_, rfl, hR78⟩, rfl⟩⟩; exact ⟨[(I x52.1)], [(Sl a59 x52.2.1 c60), (I x52.2.2)], rfl, rfl, ⟨[(Sl a59 x52.2.1 c60)], [(I x52.2.2)], rfl, ⟨_, rfl, (H.ro 1 rfl)⟩, rfl⟩⟩)) wn ?_
       rintro σ79 ⟨H, -⟩
       have hsl : (Sl Cp (s7.1.set s7.2.toNat (x42.1, x42.2.1, x42.2.2)) Cq) = (Sl Cp ((s7.1.set s7.2.toNat (x42.1, x42.2.1, x42.2.2)).set (w64 (s7.2 - 1)).toNat (x52.1, x52.2.1, x52.2.2)) Cq) := sl_len List.length_set.symm
       rw [hsl]; rw [hsl] at H; clear hsl
       refine w_end (q_blk (q_then (rg (st (v := (I s7.2)) (rv_move rfl) (st (v := (I (w64 (s7.2 - 1)))) (rv_sub (a := s7.2) (b := 1) rfl rfl) (st (v := (I (w64 (s7.2 - 1)))) (rv_assign rfl) (w_end (q_then ?_))))))))
       obtain rfl := Option.some.inj h
       exact ⟨_, rfl, _, σ79, fr_join ⟨rfl, rfl, rfl, rfl, rfl, rfl, trivial⟩, rfl, H.sel' [0, 3, 4, 5] rfl rfl, ((List.length_set.trans (List.length_set.trans (hn9.trans hn4))).trans hn4.symm)⟩
     ·replace h := bif_f hb41 h
      refine c_exit (q_then_x (q_then_x (q_blk_hit ?_)))
      obtain rfl := Option.some.inj h
      obtain rfl := hres _ rfl
      exact ⟨rfl, _, σ40, fr_join ⟨rfl, rfl, rfl, rfl, rfl, trivial⟩, rfl, H.sel' [0, 1, 2, 3] rfl rfl, ((hn9.trans hn4).trans hn4.symm)⟩
   ·clear hj
    have h := h'
    clear h' H
    rintro e a w ⟨rfl, ρ, σ80, rfl, rfl, H, hn81⟩
    refine q_blk (q_then (rg (st (v := (I s2.2)) (rv_move rfl) (st (v := (I (w64 (s2.2 + 1)))) (rv_add (a := s2.2) (b := 1) rfl rfl) (st (v := (I (w64 (s2.2 + 1)))) (rv_assign rfl) (w_end (q_then ?_)))))))
    obtain rfl := Option.some.inj h
    exact ⟨_, rfl, _, σ80, fr_join ⟨rfl, rfl, rfl, rfl, rfl, trivial⟩, rfl, H.sel' [0, 1, 2, 3] rfl rfl, (hn81.trans hn4)⟩
  ·replace h := bif_f hb5 h
   refine c_exit (q_then_x (q_then_x (q_blk_hit ?_)))
   obtain rfl := Option.some.inj h
   obtain rfl := hres _ rfl
   exact ⟨rfl, _, σ3, fr_join ⟨rfl, rfl, trivial⟩, rfl, H.sel' [0, 1, 2, 3] rfl rfl, hn4⟩
 ·clear hj
  have h := h'
  clear h' H
  rintro e a w ⟨rfl, ρ, σ82, rfl, rfl, H, hn83⟩
  obtain rfl := Option.some.inj h
  exact fin_end (v := (.tuple #[])) (results_ok Try.results112 res_nil rfl) ⟨rfl, rfl, hn83⟩ (H.sel' [0, 1, 3] rfl rfl)

end Go.Vs
