/- The functions compute what their models say. -/
import Derived.Test.YtbbddfckcpfoaaaGreatKWalkToNearestM
import Derived.Test.YtbbddfckcpfoaaaGreatWalkToNearestEng2
import Derived.Test.YtbbddfckcpfoaaaGreatProg
set_option linter.unusedVariables false
set_option linter.unusedSimpArgs false
set_option maxRecDepth 20000
namespace Go.Vs
open Go Go.Proofs
attribute [local irreducible] Code.wp Code.wpIn wpList wpListIn wpQuiet Calls CallsIn

theorem ti3 : TI Tryz.prog 3 (.int .i64 0) 1 8 := TI.mk' (by kernel_rfl)
theorem ti5 : TI Tryz.prog 5 (.int .u8 0) 1 1 := TI.mk' (by kernel_rfl)
theorem ti22 : TI Tryz.prog 22 (.slice none 0 0) 1 24 := TI.mk' (by kernel_rfl)
theorem ti26 : TI Tryz.prog 26 (.slice none 0 0) 1 24 := TI.mk' (by kernel_rfl)
theorem ti27 : TI Tryz.prog 27 (.slice none 0 0) 1 24 := TI.mk' (by kernel_rfl)
theorem ti30 : TI Tryz.prog 30 (.slice none 0 0) 1 24 := TI.mk' (by kernel_rfl)
theorem ti34 : TI Tryz.prog 34 (.agg #[(.int .i64 0), (.slice none 0 0), (.int .i64 0)]) 3 40 := TI.mk' (by kernel_rfl)
theorem ti43 : TI Tryz.prog 43 (.agg #[(.int .i64 0), (.int .i64 0)]) 2 16 := TI.mk' (by kernel_rfl)
theorem ti101 : TI Tryz.prog 101 (.agg #[(.int .i64 0), (.int .i64 0), (.int .i64 0), (.int .i64 0)]) 4 32 := TI.mk' (by kernel_rfl)
theorem ti126 : TI Tryz.prog 126 (.agg #[(.slice none 0 0), (.int .i64 0)]) 2 32 := TI.mk' (by kernel_rfl)
theorem ti132 : TI Tryz.prog 132 (.slice none 0 0) 1 24 := TI.mk' (by kernel_rfl)
theorem ti134 : TI Tryz.prog 134 (.agg #[(.int .i64 0), (.slice none 0 0)]) 2 32 := TI.mk' (by kernel_rfl)
theorem ti190 : TI Tryz.prog 190 (.int .u64 0) 1 8 := TI.mk' (by kernel_rfl)
theorem bp34 {fs : Array Field} (hT : Tryz.prog.underlying 34 = some (.struct fs)) (w : World) : (fs.mapM (fun f => do pure (f.offset, ← sizeOf f.type)) : Sem (Array (Nat × Nat))).run Tryz.prog w = .ok #[(0, 1), (1, 1), (2, 1)] w := by
  rw [Tryz.underlying34] at hT; cases hT
  simp [run_typeInfo ti27, run_typeInfo ti3]
theorem bp43 {fs : Array Field} (hT : Tryz.prog.underlying 43 = some (.struct fs)) (w : World) : (fs.mapM (fun f => do pure (f.offset, ← sizeOf f.type)) : Sem (Array (Nat × Nat))).run Tryz.prog w = .ok #[(0, 1), (1, 1)] w := by
  rw [Tryz.underlying43] at hT; cases hT
  simp [run_typeInfo ti3]
theorem bp126 {fs : Array Field} (hT : Tryz.prog.underlying 126 = some (.struct fs)) (w : World) : (fs.mapM (fun f => do pure (f.offset, ← sizeOf f.type)) : Sem (Array (Nat × Nat))).run Tryz.prog w = .ok #[(0, 1), (1, 1)] w := by
  rw [Tryz.underlying126] at hT; cases hT
  simp [run_typeInfo ti22, run_typeInfo ti3]
theorem bp134 {fs : Array Field} (hT : Tryz.prog.underlying 134 = some (.struct fs)) (w : World) : (fs.mapM (fun f => do pure (f.offset, ← sizeOf f.type)) : Sem (Array (Nat × Nat))).run Tryz.prog w = .ok #[(0, 1), (1, 1)] w := by
  rw [Tryz.underlying134] at hT; cases hT
  simp [run_typeInfo ti132, run_typeInfo ti3]
theorem intfs43 : IntFs Tryz.prog 0 (Tryz.prog.fieldsOf 43).toList := by
  rw [Program.fieldsOf, Tryz.underlying43]
  exact ⟨rfl, by decide, Tryz.underlying3, ⟨rfl, by decide, Tryz.underlying3, trivial⟩⟩

theorem c_impl_validCoords {Aa : List Int} {Ac : Option Addr} {Ad : Nat} {r : Bool} (h : M.impl_validCoords Aa = some r) :
    Cal2 Tryz.prog 127 [(Sl Ac Aa Ad)] [Ch.ro 0 (Sl Ac Aa Ad) Aa] (fun n0 v L => v = (B r) ∧ L = []) := by
 refine cal2 (n := 18) Tryz.func127 rfl rfl rfl rfl ?_
 intro S0 σ0 n0 hn0 H
 unfold M.impl_validCoords at h
 refine c_seq (rg (sa (B false) rfl (w_end (q_then (c_seq (c_seq (rg (sm (Sl Ac Aa Ad) rfl (st (v := (I (Aa.length : Int))) (rv_len Tryz.underlying27 rfl) (sm (I 0) rfl (w_end ?_)))))))))))
 refine q_then ?_
 obtain ⟨o1, hj, h'⟩ := bind_some h
 clear h
 refine c_cut (fun e a w => (∃ t, o1 = (.inl t) ∧ e = .normal ∧ ∃ (ρ : Nat → Value) (σ : St), a = fr 18 (updL ρ []) ∧ w = σ.w ∧ Hp S0 σ0 σ []) ∨ (∃ t, o1 = (.inr t) ∧ e = .ret ∧ ∃ (ρ : Nat → Value) (σ : St), a = fr 18 (updL ρ [(2, (B t))]) ∧ w = σ.w ∧ Hp S0 σ0 σ [])) ?_ ?_
 ·clear h'
  rename _ = some o1 => h
  refine c_blk (wp_loopM _ h (fun s2 a w => ∃ (ρ : Nat → Value) (σ : St), a = fr 18 (updL ρ [(5, (Sl Ac Aa Ad)), (6, (I (Aa.length : Int))), (7, (I s2))]) ∧ w = σ.w ∧ Hp S0 σ0 σ [Ch.ro 0 (Sl Ac Aa Ad) Aa]) ⟨_, σ0, fr_join ⟨rfl, rfl, rfl, trivial⟩, rfl, H.sel' [0] rfl rfl⟩ ?_)
  clear h H
  rintro s2 a w o ⟨ρ, σ3, rfl, rfl, H⟩ h hres
  refine c_seq (rg (st (v := (B (decide (s2 < (Aa.length : Int))))) (rv_lss (a := s2) (b := (Aa.length : Int)) rfl rfl) (w_end (q_then (c_seq ?_)))))
  refine cd_cond (decide (s2 < (Aa.length : Int))) rfl (fun hb4 => ?_) (fun hb4 => ?_)
  ·replace h := bif_t hb4 h
   refine c_skip (q_then (c_seq (c_blk (c_seq (rg ?_)))))
   revert h; refine br fun x5 hx6 h => ?_
   obtain ⟨b8, o9, hi7, -⟩ := (H.ro 0 rfl).ix hx6
   refine st (v := (pt b8 o9)) (rv_ix Tryz.underlying27 ti3 rfl rfl hi7) ?_
   have hc10 := ((H.ro 0 rfl).at hx6 hi7).int
   refine st (v := (I x5)) (rv_load1 Tryz.underlying3 rfl rfl hc10) (sa (I x5) rfl (w_end (q_then (c_seq ?_))))
   obtain ⟨o11, hj, h'⟩ := bind_some h
   clear h
   refine c_cut (fun e a w => e = .normal ∧ ∃ (ρ : Nat → Value) (σ : St), a = fr 18 (updL ρ [(5, (Sl Ac Aa Ad)), (6, (I (Aa.length : Int))), (7, (I s2)), (16, (B o11))]) ∧ w = σ.w ∧ Hp S0 σ0 σ [Ch.ro 0 (Sl Ac Aa Ad) Aa]) ?_ ?_
   ·clear h'
    rename _ = some o11 => h
    refine rg (sm (I x5) rfl (st (v := (B (decide (x5 < (-100))))) (rv_lss (a := x5) (b := (-100)) rfl rfl) (sm (B (decide (x5 < (-100)))) rfl ?_)))
    rcases Bool.eq_false_or_eq_true (decide (x5 < (-100))) with hb12 | hb12
    ·replace h := bif_t hb12 h
     refine st_skip (congrArg some hb12) (st_skip (congrArg some hb12) (st (v := (B true)) (rv_pick_t (congrArg B hb12) rfl) (w_end ?_)))
     obtain rfl := sj h
     exact ⟨rfl, _, σ3, fr_join ⟨rfl, rfl, rfl, rfl, trivial⟩, rfl, H.sel' [0] rfl rfl⟩
    ·replace h := bif_f hb12 h
     refine st_g (v := (I x5)) (congrArg some hb12) (rv_move rfl) (st_g (v := (B (decide (100 < x5)))) (congrArg some hb12) (rv_gtr (a := x5) (b := 100) rfl rfl) (st (v := (B (decide (100 < x5)))) (rv_pick_f (congrArg B hb12) rfl) (w_end ?_)))
     obtain rfl := sj h
     exact ⟨rfl, _, σ3, fr_join ⟨rfl, rfl, rfl, rfl, trivial⟩, rfl, H.sel' [0] rfl rfl⟩
   ·clear hj
    have h := h'
    clear h' H
    rintro e a w ⟨rfl, ρ, σ13, rfl, rfl, H⟩
    refine q_then ?_
    refine cd_cond o11 rfl (fun hb14 => ?_) (fun hb14 => ?_)
    ·replace h := bif_t hb14 h
     refine c_seq (rg (sa (B false) rfl (w_end (q_then (c_ret (q_blk_r (q_then_r (q_then_r (q_blk_r ?_)))))))))
     obtain rfl := sj h
     obtain rfl := hres _ rfl
     exact .inr (⟨_, rfl, rfl, _, σ13, fr_join ⟨rfl, trivial⟩, rfl, H.sel' [] rfl rfl⟩)
    ·replace h := bif_f hb14 h
     refine c_skip (q_blk (q_then (rg (st (v := (I (w64 (s2 + 1)))) (rv_add (a := s2) (b := 1) rfl rfl) (sm (I (w64 (s2 + 1))) rfl (w_end (q_then ?_)))))))
     obtain rfl := sj h
     exact ⟨_, rfl, _, σ13, fr_join ⟨rfl, rfl, rfl, trivial⟩, rfl, H.sel' [0] rfl rfl⟩
  ·replace h := bif_f hb4 h
   refine c_exit (q_then_x (q_then_x (q_blk_hit ?_)))
   obtain rfl := sj h
   obtain rfl := hres _ rfl
   exact .inl ⟨_, rfl, rfl, _, σ3, fr_join trivial, rfl, H.sel' [] rfl rfl⟩
 ·clear hj
  have h := h'
  clear h' H
  rintro e a w (⟨t15, rfl, rfl, ρ, σ16, rfl, rfl, H⟩ | ⟨t17, rfl, rfl, ρ, σ18, rfl, rfl, H⟩)
  ·replace h := selim_l h
   refine q_then (c_seq (rg (sa (B true) rfl (w_end (q_then (c_ret ?_))))))
   obtain rfl := sj h
   exact fin_ret (v := (B true)) (results_ok Tryz.results127 (res_tmp (v := (B true)) rfl res_nil) rfl) ⟨rfl, rfl⟩ (H.sel' [] rfl rfl)
  ·replace h := selim_r h
   refine q_then_r ?_
   obtain rfl := sj h
   exact fin_ret (v := (B t17)) (results_ok Tryz.results127 (res_tmp (v := (B t17)) rfl res_nil) rfl) ⟨rfl, rfl⟩ (H.sel' [] rfl rfl)

theorem c_impl_ValidVector {Ae : List Int} {Af : Option Addr} {Ag : Nat} {r : Bool} (h : M.impl_ValidVector Ae = some r) :
    Cal2 Tryz.prog 66 [(Sl Af Ae Ag)] [Ch.ro 0 (Sl Af Ae Ag) Ae] (fun n0 v L => v = (B r) ∧ L = []) := by
 refine cal2 (n := 10) Tryz.func66 rfl rfl rfl rfl ?_
 intro S0 σ0 n0 hn0 H
 unfold M.impl_ValidVector at h
 refine c_seq (rg (sa (B false) rfl (w_end (q_then (c_seq (rg (sm (Sl Af Ae Ag) rfl (st (v := (I (Ae.length : Int))) (rv_len Tryz.underlying27 rfl) (st (v := (B ((Ae.length : Int) == 4))) (rv_eql (a := (Ae.length : Int)) (b := 4) rfl rfl) (sm (B ((Ae.length : Int) == 4)) rfl ?_))))))))))
 rcases Bool.eq_false_or_eq_true ((Ae.length : Int) == 4) with hb1 | hb1
 ·replace h := bif_t hb1 h
  refine st_g (v := (Sl Af Ae Ag)) (congrArg some hb1) (rv_move rfl) ?_
  revert h; refine br fun r2 hx3 h => ?_
  have hc4 := c_impl_validCoords (Ac := Af) (Ad := Ag) hx3
  refine st_call (cx_call hc4 (ent_f hc4.fn rfl) hn0 (H.sel' [0, 0] rfl rfl : Hp S0 σ0 _ ([_] ++ _))) (wanted_yes rfl (by exact (congrArg some hb1))) ?_
  rintro _ σ5 ⟨_, ⟨rfl, rfl⟩, H, -⟩
  replace H : Hp _ _ _ [_] := H
  refine st (v := (B r2)) (rv_pick_t (congrArg B hb1) rfl) (sa (B r2) rfl (w_end (q_then (c_ret ?_))))
  obtain rfl := sj h
  exact fin_ret (v := (B r2)) (results_ok Tryz.results66 (res_tmp (v := (B r2)) rfl res_nil) rfl) ⟨rfl, rfl⟩ (H.sel' [] rfl rfl)
 ·replace h := bif_f hb1 h
  refine st_skip (congrArg some hb1) (st_skip (congrArg some hb1) (st (v := (B false)) (rv_pick_f (congrArg B hb1) rfl) (sa (B false) rfl (w_end (q_then (c_ret ?_))))))
  obtain rfl := sj h
  exact fin_ret (v := (B false)) (results_ok Tryz.results66 (res_tmp (v := (B false)) rfl res_nil) rfl) ⟨rfl, rfl⟩ (H.sel' [] rfl rfl)

theorem c_impl_validTags {Ah : Int}  {r : Bool} (h : M.impl_validTags Ah = some r) :
    Cal2 Tryz.prog 107 [(I Ah)] [] (fun n0 v L => v = (B r) ∧ L = []) := by
 refine cal2 (n := 9) Tryz.func107 rfl rfl rfl rfl ?_
 intro S0 σ0 n0 hn0 H
 unfold M.impl_validTags at h
 refine c_seq (rg (sa (B false) rfl (w_end (q_then (c_seq (rg (sm (I Ah) rfl (st (v := (B (decide (0 ≤ Ah)))) (rv_geq (a := Ah) (b := 0) rfl rfl) (sm (B (decide (0 ≤ Ah))) rfl ?_)))))))))
 rcases Bool.eq_false_or_eq_true (decide (0 ≤ Ah)) with hb1 | hb1
 ·replace h := bif_t hb1 h
  refine st_g (v := (I Ah)) (congrArg some hb1) (rv_move rfl) (st_g (v := (B (decide (Ah ≤ 15)))) (congrArg some hb1) (rv_leq (a := Ah) (b := 15) rfl rfl) (st (v := (B (decide (Ah ≤ 15)))) (rv_pick_t (congrArg B hb1) rfl) (sa (B (decide (Ah ≤ 15))) rfl (w_end (q_then (c_ret ?_))))))
  obtain rfl := sj h
  exact fin_ret (v := (B (decide (Ah ≤ 15)))) (results_ok Tryz.results107 (res_tmp (v := (B (decide (Ah ≤ 15)))) rfl res_nil) rfl) ⟨rfl, rfl⟩ (H.sel' [] rfl rfl)
 ·replace h := bif_f hb1 h
  refine st_skip (congrArg some hb1) (st_skip (congrArg some hb1) (st (v := (B false)) (rv_pick_f (congrArg B hb1) rfl) (sa (B false) rfl (w_end (q_then (c_ret ?_))))))
  obtain rfl := sj h
  exact fin_ret (v := (B false)) (results_ok Tryz.results107 (res_tmp (v := (B false)) rfl res_nil) rfl) ⟨rfl, rfl⟩ (H.sel' [] rfl rfl)

theorem c_impl_validKey {Ai : Int}  {r : Bool} (h : M.impl_validKey Ai = some r) :
    Cal2 Tryz.prog 155 [(I Ai)] [] (fun n0 v L => v = (B r) ∧ L = []) := by
 refine cal2 (n := 9) Tryz.func155 rfl rfl rfl rfl ?_
 intro S0 σ0 n0 hn0 H
 unfold M.impl_validKey at h
 refine c_seq (rg (sa (B false) rfl (w_end (q_then (c_seq (rg (sm (I Ai) rfl (st (v := (B (decide (1 ≤ Ai)))) (rv_geq (a := Ai) (b := 1) rfl rfl) (sm (B (decide (1 ≤ Ai))) rfl ?_)))))))))
 rcases Bool.eq_false_or_eq_true (decide (1 ≤ Ai)) with hb1 | hb1
 ·replace h := bif_t hb1 h
  refine st_g (v := (I Ai)) (congrArg some hb1) (rv_move rfl) (st_g (v := (B (decide (Ai ≤ 99)))) (congrArg some hb1) (rv_leq (a := Ai) (b := 99) rfl rfl) (st (v := (B (decide (Ai ≤ 99)))) (rv_pick_t (congrArg B hb1) rfl) (sa (B (decide (Ai ≤ 99))) rfl (w_end (q_then (c_ret ?_))))))
  obtain rfl := sj h
  exact fin_ret (v := (B (decide (Ai ≤ 99)))) (results_ok Tryz.results155 (res_tmp (v := (B (decide (Ai ≤ 99)))) rfl res_nil) rfl) ⟨rfl, rfl⟩ (H.sel' [] rfl rfl)
 ·replace h := bif_f hb1 h
  refine st_skip (congrArg some hb1) (st_skip (congrArg some hb1) (st (v := (B false)) (rv_pick_f (congrArg B hb1) rfl) (sa (B false) rfl (w_end (q_then (c_ret ?_))))))
  obtain rfl := sj h
  exact fin_ret (v := (B false)) (results_ok Tryz.results155 (res_tmp (v := (B false)) rfl res_nil) rfl) ⟨rfl, rfl⟩ (H.sel' [] rfl rfl)

theorem c_impl_validItem {Aj : Int × (List Int) × Int} {Ak : Option Addr} {Am : Nat} {r : Bool} (h : M.impl_validItem Aj = some r) :
    Cal2 Tryz.prog 109 [(.agg #[(I Aj.1), (Sl Ak Aj.2.1 Am), (I Aj.2.2)])] [Ch.ro 0 (Sl Ak Aj.2.1 Am) Aj.2.1] (fun n0 v L => v = (B r) ∧ L = []) := by
 refine cal2 (n := 16) Tryz.func109 rfl rfl rfl rfl ?_
 intro S0 σ0 n0 hn0 H
 unfold M.impl_validItem at h
 refine c_seq (rg (st_ex (ex_box (cs := [(I Aj.1), (Sl Ak Aj.2.1 Am), (I Aj.2.2)]) H hn0 rfl rfl) wn ?_))
 rintro _ σ2 ⟨b1, rfl, H, -⟩
 refine sa (B false) rfl (w_end (q_then (c_seq (rg (st (v := (pt b1 0)) (rv_fieldAddr (off := 0) (ft := 3) Tryz.underlying34 rfl ti3 rfl rfl) ?_)))))
 have hc3 := H.cell (u := (I Aj.1)) (o' := 0) 0 0 rfl rfl rfl
 refine st (v := (I Aj.1)) (rv_load1 Tryz.underlying3 rfl rfl hc3) ?_
 revert h; refine br fun r4 hx5 h => ?_
 have hc6 := c_impl_validKey hx5
 refine st_call (cx_call hc6 (ent_f hc6.fn rfl) hn0 (H.sel' [0, 1] rfl rfl : Hp S0 σ0 _ ([] ++ _))) wn ?_
 rintro _ σ7 ⟨_, ⟨rfl, rfl⟩, H, -⟩
 replace H : Hp _ _ _ [_, _] := H
 refine sm (B r4) rfl ?_
 rcases Bool.eq_false_or_eq_true r4 with hb8 | hb8
 ·replace h := bif_t hb8 h
  refine st_g (v := (pt b1 1)) (congrArg some hb8) (rv_fieldAddr (off := 1) (ft := 27) Tryz.underlying34 rfl ti27 rfl rfl) ?_
  have hc9 := H.cell (u := (Sl Ak Aj.2.1 Am)) (o' := 1) 0 1 rfl rfl rfl
  refine st_g (v := (Sl Ak Aj.2.1 Am)) (congrArg some hb8) (rv_load1 Tryz.underlying27 rfl rfl hc9) ?_
  revert h; refine br fun r10 hx11 h => ?_
  have hc12 := c_impl_ValidVector (Af := Ak) (Ag := Am) hx11
  refine st_call (cx_call hc12 (ent_f hc12.fn rfl) hn0 (H.sel' [1, 0, 1] rfl rfl : Hp S0 σ0 _ ([_] ++ _))) (wanted_yes rfl (by exact (congrArg some hb8))) ?_
  rintro _ σ13 ⟨_, ⟨rfl, rfl⟩, H, -⟩
  replace H : Hp _ _ _ [_, _] := H
  refine st (v := (B r10)) (rv_pick_t (congrArg B hb8) rfl) (sm (B r10) rfl ?_)
  rcases Bool.eq_false_or_eq_true r10 with hb14 | hb14
  ·replace h := bif_t hb14 h
   refine st_g (v := (pt b1 2)) (congrArg some hb14) (rv_fieldAddr (off := 2) (ft := 3) Tryz.underlying34 rfl ti3 rfl rfl) ?_
   have hc15 := H.cell (u := (I Aj.2.2)) (o' := 2) 0 2 rfl rfl rfl
   refine st_g (v := (I Aj.2.2)) (congrArg some hb14) (rv_load1 Tryz.underlying3 rfl rfl hc15) ?_
   revert h; refine br fun r16 hx17 h => ?_
   have hc18 := c_impl_validTags hx17
   refine st_call (cx_call hc18 (ent_f hc18.fn rfl) hn0 (H.sel' [0, 1] rfl rfl : Hp S0 σ0 _ ([] ++ _))) (wanted_yes rfl (by exact (congrArg some hb14))) ?_
   rintro _ σ19 ⟨_, ⟨rfl, rfl⟩, H, -⟩
   replace H : Hp _ _ _ [_, _] := H
   refine st (v := (B r16)) (rv_pick_t (congrArg B hb14) rfl) (sa (B r16) rfl (w_end (q_then (c_ret ?_))))
   obtain rfl := sj h
   exact fin_ret (v := (B r16)) (results_ok Tryz.results109 (res_tmp (v := (B r16)) rfl res_nil) rfl) ⟨rfl, rfl⟩ (H.sel' [] rfl rfl)
  ·replace h := bif_f hb14 h
   refine st_skip (congrArg some hb14) (st_skip (congrArg some hb14) (st_skip (congrArg some hb14) (st (v := (B false)) (rv_pick_f (congrArg B hb14) rfl) (sa (B false) rfl (w_end (q_then (c_ret ?_)))))))
   obtain rfl := sj h
   exact fin_ret (v := (B false)) (results_ok Tryz.results109 (res_tmp (v := (B false)) rfl res_nil) rfl) ⟨rfl, rfl⟩ (H.sel' [] rfl rfl)
 ·replace h := bif_f hb8 h
  refine st_skip (congrArg some hb8) (st_skip (congrArg some hb8) (st_skip (congrArg some hb8) (st (v := (B false)) (rv_pick_f (congrArg B hb8) rfl) (sm (B false) rfl (st_skip rfl (st_skip rfl (st_skip rfl (st (v := (B false)) (rv_pick_f rfl rfl) (sa (B false) rfl (w_end (q_then ?_)))))))))))
  refine c_ret ?_
  obtain rfl := sj h
  exact fin_ret (v := (B false)) (results_ok Tryz.results109 (res_tmp (v := (B false)) rfl res_nil) rfl) ⟨rfl, rfl⟩ (H.sel' [] rfl rfl)

theorem c_impl_ValidStore {Ao : List (Int × (List Int) × Int)} {Ap : Option Addr} {Aq : Nat} {r : Bool} (h : M.impl_ValidStore Ao = some r) :
    Cal2 Tryz.prog 46 [(Sl Ap Ao Aq)] [Ch.ro 0 (Sl Ap Ao Aq) Ao] (fun n0 v L => v = (B r) ∧ L = []) := by
 refine cal2 (n := 27) Tryz.func46 rfl rfl rfl rfl ?_
 intro S0 σ0 n0 hn0 H
 unfold M.impl_ValidStore at h
 refine c_seq (rg (sa (B false) rfl (w_end (q_then (c_seq (c_seq (rg (sm (Sl Ap Ao Aq) rfl (st (v := (I (Ao.length : Int))) (rv_len Tryz.underlying26 rfl) (st (v := (B (decide (16 < (Ao.length : Int))))) (rv_gtr (a := (Ao.length : Int)) (b := 16) rfl rfl) (w_end ?_)))))))))))
 refine q_then ?_
 refine cd_cond (decide (16 < (Ao.length : Int))) rfl (fun hb1 => ?_) (fun hb1 => ?_)
 ·replace h := bif_t hb1 h
  refine c_seq (rg (sa (B false) rfl (w_end (q_then (c_ret (q_then_r ?_))))))
  obtain rfl := sj h
  exact fin_ret (v := (B false)) (results_ok Tryz.results46 (res_tmp (v := (B false)) rfl res_nil) rfl) ⟨rfl, rfl⟩ (H.sel' [] rfl rfl)
 ·replace h := bif_f hb1 h
  refine c_skip (q_then (c_seq (rg (sa (I 0) rfl (w_end (q_then (c_seq (c_seq (rg (sm (Sl Ap Ao Aq) rfl (st (v := (I (Ao.length : Int))) (rv_len Tryz.underlying26 rfl) ?_)))))))))))
  refine sm (I 0) rfl (w_end (q_then ?_))
  obtain ⟨o2, hj, h'⟩ := bind_some h
  clear h
  refine c_cut (fun e a w => (∃ t, o2 = (.inl t) ∧ e = .normal ∧ ∃ (ρ : Nat → Value) (σ : St), a = fr 27 (updL ρ []) ∧ w = σ.w ∧ Hp S0 σ0 σ []) ∨ (∃ t, o2 = (.inr t) ∧ e = .ret ∧ ∃ (ρ : Nat → Value) (σ : St), a = fr 27 (updL ρ [(2, (B t))]) ∧ w = σ.w ∧ Hp S0 σ0 σ [])) ?_ ?_
  ·clear h'
   rename _ = some o2 => h
   refine c_blk (wp_loopM _ h (fun s3 a w => ∃ (ρ : Nat → Value) (σ : St), a = fr 27 (updL ρ [(3, (I s3.1)), (9, (Sl Ap Ao Aq)), (10, (I (Ao.length : Int))), (11, (I s3.2))]) ∧ w = σ.w ∧ Hp S0 σ0 σ [Ch.ro 0 (Sl Ap Ao Aq) Ao]) ⟨_, σ0, fr_join ⟨rfl, rfl, rfl, rfl, trivial⟩, rfl, H.sel' [0] rfl rfl⟩ ?_)
   clear h H
   rintro s3 a w o ⟨ρ, σ4, rfl, rfl, H⟩ h hres
   refine c_seq (rg (st (v := (B (decide (s3.2 < (Ao.length : Int))))) (rv_lss (a := s3.2) (b := (Ao.length : Int)) rfl rfl) (w_end (q_then (c_seq ?_)))))
   refine cd_cond (decide (s3.2 < (Ao.length : Int))) rfl (fun hb5 => ?_) (fun hb5 => ?_)
   ·replace h := bif_t hb5 h
    refine c_skip (q_then (c_seq (c_blk (c_seq (rg ?_)))))
    revert h; refine br fun x6 hx7 h => ?_
    obtain ⟨b9, o10, hi8, -⟩ := (H.ro 0 rfl).ix hx7
    refine st (v := (pt b9 o10)) (rv_ix Tryz.underlying26 ti34 rfl rfl hi8) ?_
    obtain ⟨_, ⟨_, _, rfl, rfl, ⟨_, _, rfl, ⟨_, rfl, hR15⟩, rfl⟩⟩, hl11, hc12⟩ := ((H.ro 0 rfl).at hx7 hi8).cells
    obtain ⟨a13, c14, rfl⟩ := hR15.isSl
    replace H := H.add (d := Ch.ro 0 (Sl a13 x6.2.1 c14) x6.2.1) hR15 (fun _ h => h)
    clear hR15
    refine st (v := (.agg #[(I x6.1), (Sl a13 x6.2.1 c14), (I x6.2.2)])) (rv_load Tryz.underlying34 rfl ti34 rfl hl11 hc12) (st_ex (ex_alloc (cs := [(I 0), (.slice none 0 0), (I 0)]) H hn0 ti34 rfl) wn ?_)
    rintro _ σ17 ⟨b16, rfl, H, -⟩
    refine st_exS (ex_store_box (k := 0) (cs := [(I 0), (.slice none 0 0), (I 0)]) (vs := [(I x6.1), (Sl a13 x6.2.1 c14), (I x6.2.2)]) (cs' := [(I x6.1), (Sl a13 x6.2.1 c14), (I x6.2.2)]) H (i := 0) rfl ti34 rfl rfl rfl rfl rfl (Nat.le_of_ble_eq_true rfl) (by simp [plain]) rfl) wn ?_
    rintro σ18 ⟨H, -⟩
    refine w_end (q_then (c_seq (c_seq ?_)))
    obtain ⟨o19, hj, h'⟩ := bind_some h
    clear h
    refine c_cut (fun e a w => e = .normal ∧ ∃ (ρ : Nat → Value) (σ : St), a = fr 27 (updL ρ [(5, (pt b16 0)), (9, (Sl Ap Ao Aq)), (10, (I (Ao.length : Int))), (11, (I s3.2)), (23, (B o19))]) ∧ w = σ.w ∧ Hp S0 σ0 σ [Ch.ro 0 (Sl a13 x6.2.1 c14) x6.2.1, Ch.bx n0 b16 0 [(I x6.1), (Sl a13 x6.2.1 c14), (I x6.2.2)] [] [], Ch.ro 0 (Sl Ap Ao Aq) Ao]) ?_ ?_
    ·clear h'
     rename _ = some o19 => h
     refine rg ?_
     have hc20 := H.cells 0 rfl
     refine st (v := (.agg #[(I x6.1), (Sl a13 x6.2.1 c14), (I x6.2.2)])) (rv_load (cs := [(I x6.1), (Sl a13 x6.2.1 c14), (I x6.2.2)]) Tryz.underlying34 rfl ti34 rfl rfl hc20) ?_
     revert h; refine br fun r21 hx22 h => ?_
     have hc23 := c_impl_validItem (Ak := a13) (Am := c14) hx22
     refine st_call (cx_call hc23 (ent_f hc23.fn rfl) hn0 (H.sel' [1, 0, 1, 2] rfl rfl : Hp S0 σ0 _ ([_] ++ _))) wn ?_
     rintro _ σ24 ⟨_, ⟨rfl, rfl⟩, H, -⟩
     replace H : Hp _ _ _ [_, _, _] := H
     refine st (v := (B (!r21))) (rv_not rfl) (sm (B (!r21)) rfl ?_)
     rcases Bool.eq_false_or_eq_true (!r21) with hb25 | hb25
     ·replace h := bif_t hb25 h
      refine st_skip (congrArg some hb25) (st_skip (congrArg some hb25) (st_skip (congrArg some hb25) (st_skip (congrArg some hb25) (st (v := (B true)) (rv_pick_t (congrArg B hb25) rfl) (w_end ?_)))))
      obtain rfl := sj h
      exact ⟨rfl, _, σ24, fr_join ⟨rfl, rfl, rfl, rfl, rfl, trivial⟩, rfl, H.sel' [1, 0, 2] rfl rfl⟩
     ·replace h := bif_f hb25 h
      refine st_g (v := (pt b16 0)) (congrArg some hb25) (rv_fieldAddr (off := 0) (ft := 3) Tryz.underlying34 rfl ti3 rfl rfl) ?_
      have hc26 := H.cell (u := (I x6.1)) (o' := 0) 0 0 rfl rfl rfl
      refine st_g (v := (I x6.1)) (congrArg some hb25) (rv_load1 Tryz.underlying3 rfl rfl hc26) (st_g (v := (I s3.1)) (congrArg some hb25) (rv_move rfl) (st_g (v := (B (decide (x6.1 ≤ s3.1)))) (congrArg some hb25) (rv_leq (a := x6.1) (b := s3.1) rfl rfl) (st (v := (B (decide (x6.1 ≤ s3.1)))) (rv_pick_f (congrArg B hb25) rfl) (w_end ?_))))
      obtain rfl := sj h
      exact ⟨rfl, _, σ24, fr_join ⟨rfl, rfl, rfl, rfl, rfl, trivial⟩, rfl, H.sel' [1, 0, 2] rfl rfl⟩
    ·clear hj
     have h := h'
     clear h' H
     rintro e a w ⟨rfl, ρ, σ27, rfl, rfl, H⟩
     refine q_then ?_
     refine cd_cond o19 rfl (fun hb28 => ?_) (fun hb28 => ?_)
     ·replace h := bif_t hb28 h
      refine c_seq (rg (sa (B false) rfl (w_end (q_then (c_ret (q_then_r (q_blk_r (q_then_r (q_then_r (q_blk_r ?_))))))))))
      obtain rfl := sj h
      obtain rfl := hres _ rfl
      exact .inr (⟨_, rfl, rfl, _, σ27, fr_join ⟨rfl, trivial⟩, rfl, H.sel' [] rfl rfl⟩)
     ·replace h := bif_f hb28 h
      refine c_skip (q_then (rg (st (v := (pt b16 0)) (rv_fieldAddr (off := 0) (ft := 3) Tryz.underlying34 rfl ti3 rfl rfl) ?_)))
      have hc29 := H.cell (u := (I x6.1)) (o' := 0) 1 0 rfl rfl rfl
      refine st (v := (I x6.1)) (rv_load1 Tryz.underlying3 rfl rfl hc29) (sa (I x6.1) rfl (w_end (q_blk (q_then (rg (st (v := (I (w64 (s3.2 + 1)))) (rv_add (a := s3.2) (b := 1) rfl rfl) (sm (I (w64 (s3.2 + 1))) rfl (w_end (q_then ?_)))))))))
      obtain rfl := sj h
      exact ⟨_, rfl, _, σ27, fr_join ⟨rfl, rfl, rfl, rfl, trivial⟩, rfl, H.sel' [2] rfl rfl⟩
   ·replace h := bif_f hb5 h
    refine c_exit (q_then_x (q_then_x (q_blk_hit ?_)))
    obtain rfl := sj h
    obtain rfl := hres _ rfl
    exact .inl ⟨_, rfl, rfl, _, σ4, fr_join trivial, rfl, H.sel' [] rfl rfl⟩
  ·clear hj
   have h := h'
   clear h' H
   rintro e a w (⟨t30, rfl, rfl, ρ, σ31, rfl, rfl, H⟩ | ⟨t32, rfl, rfl, ρ, σ33, rfl, rfl, H⟩)
   ·replace h := selim_l h
    refine q_then (c_seq (rg (sa (B true) rfl (w_end (q_then (c_ret ?_))))))
    obtain rfl := sj h
    exact fin_ret (v := (B true)) (results_ok Tryz.results46 (res_tmp (v := (B true)) rfl res_nil) rfl) ⟨rfl, rfl⟩ (H.sel' [] rfl rfl)
   ·replace h := selim_r h
    refine q_then_r ?_
    obtain rfl := sj h
    exact fin_ret (v := (B t32)) (results_ok Tryz.results46 (res_tmp (v := (B t32)) rfl res_nil) rfl) ⟨rfl, rfl⟩ (H.sel' [] rfl rfl)

theorem c_impl_validCount {Ar : Int}  {r : Bool} (h : M.impl_validCount Ar = some r) :
    Cal2 Tryz.prog 70 [(I Ar)] [] (fun n0 v L => v = (B r) ∧ L = []) := by
 refine cal2 (n := 9) Tryz.func70 rfl rfl rfl rfl ?_
 intro S0 σ0 n0 hn0 H
 unfold M.impl_validCount at h
 refine c_seq (rg (sa (B false) rfl (w_end (q_then (c_seq (rg (sm (I Ar) rfl (st (v := (B (decide (1 ≤ Ar)))) (rv_geq (a := Ar) (b := 1) rfl rfl) (sm (B (decide (1 ≤ Ar))) rfl ?_)))))))))
 rcases Bool.eq_false_or_eq_true (decide (1 ≤ Ar)) with hb1 | hb1
 ·replace h := bif_t hb1 h
  refine st_g (v := (I Ar)) (congrArg some hb1) (rv_move rfl) (st_g (v := (B (decide (Ar ≤ 16)))) (congrArg some hb1) (rv_leq (a := Ar) (b := 16) rfl rfl) (st (v := (B (decide (Ar ≤ 16)))) (rv_pick_t (congrArg B hb1) rfl) (sa (B (decide (Ar ≤ 16))) rfl (w_end (q_then (c_ret ?_))))))
  obtain rfl := sj h
  exact fin_ret (v := (B (decide (Ar ≤ 16)))) (results_ok Tryz.results70 (res_tmp (v := (B (decide (Ar ≤ 16)))) rfl res_nil) rfl) ⟨rfl, rfl⟩ (H.sel' [] rfl rfl)
 ·replace h := bif_f hb1 h
  refine st_skip (congrArg some hb1) (st_skip (congrArg some hb1) (st (v := (B false)) (rv_pick_f (congrArg B hb1) rfl) (sa (B false) rfl (w_end (q_then (c_ret ?_))))))
  obtain rfl := sj h
  exact fin_ret (v := (B false)) (results_ok Tryz.results70 (res_tmp (v := (B false)) rfl res_nil) rfl) ⟨rfl, rfl⟩ (H.sel' [] rfl rfl)

theorem c_impl_validKind {As : Int}  {r : Bool} (h : M.impl_validKind As = some r) :
    Cal2 Tryz.prog 118 [(I As)] [] (fun n0 v L => v = (B r) ∧ L = []) := by
 refine cal2 (n := 9) Tryz.func118 rfl rfl rfl rfl ?_
 intro S0 σ0 n0 hn0 H
 unfold M.impl_validKind at h
 refine c_seq (rg (sa (B false) rfl (w_end (q_then (c_seq (rg (sm (I As) rfl (st (v := (B (decide (1 ≤ As)))) (rv_geq (a := As) (b := 1) rfl rfl) (sm (B (decide (1 ≤ As))) rfl ?_)))))))))
 rcases Bool.eq_false_or_eq_true (decide (1 ≤ As)) with hb1 | hb1
 ·replace h := bif_t hb1 h
  refine st_g (v := (I As)) (congrArg some hb1) (rv_move rfl) (st_g (v := (B (decide (As ≤ 4)))) (congrArg some hb1) (rv_leq (a := As) (b := 4) rfl rfl) (st (v := (B (decide (As ≤ 4)))) (rv_pick_t (congrArg B hb1) rfl) (sa (B (decide (As ≤ 4))) rfl (w_end (q_then (c_ret ?_))))))
  obtain rfl := sj h
  exact fin_ret (v := (B (decide (As ≤ 4)))) (results_ok Tryz.results118 (res_tmp (v := (B (decide (As ≤ 4)))) rfl res_nil) rfl) ⟨rfl, rfl⟩ (H.sel' [] rfl rfl)
 ·replace h := bif_f hb1 h
  refine st_skip (congrArg some hb1) (st_skip (congrArg some hb1) (st (v := (B false)) (rv_pick_f (congrArg B hb1) rfl) (sa (B false) rfl (w_end (q_then (c_ret ?_))))))
  obtain rfl := sj h
  exact fin_ret (v := (B false)) (results_ok Tryz.results118 (res_tmp (v := (B false)) rfl res_nil) rfl) ⟨rfl, rfl⟩ (H.sel' [] rfl rfl)

theorem c_impl_validSearch {Ao : List (Int × (List Int) × Int)} {Au : Int} {Av : List Int} {Aw : Int} {Ap : Option Addr} {Aq : Nat} {Ax : Option Addr} {Ay : Nat} {r : Bool} (h : M.impl_validSearch Ao Au Av Aw = some r) :
    Cal2 Tryz.prog 54 [(Sl Ap Ao Aq), (I Au), (Sl Ax Av Ay), (I Aw)] [Ch.ro 0 (Sl Ap Ao Aq) Ao, Ch.ro 0 (Sl Ax Av Ay) Av] (fun n0 v L => v = (B r) ∧ L = []) := by
 refine cal2 (n := 23) Tryz.func54 rfl rfl rfl rfl ?_
 intro S0 σ0 n0 hn0 H
 unfold M.impl_validSearch at h
 refine c_seq (rg (sa (B false) rfl (w_end (q_then (c_seq (rg (sm (Sl Ap Ao Aq) rfl ?_)))))))
 revert h; refine br fun r1 hx2 h => ?_
 have hc3 := c_impl_ValidStore (Ap := Ap) (Aq := Aq) hx2
 refine st_call (cx_call hc3 (ent_f hc3.fn rfl) hn0 (H.sel' [0, 0, 1] rfl rfl : Hp S0 σ0 _ ([_] ++ _))) wn ?_
 rintro _ σ4 ⟨_, ⟨rfl, rfl⟩, H, -⟩
 replace H : Hp _ _ _ [_, _] := H
 refine sm (B r1) rfl ?_
 rcases Bool.eq_false_or_eq_true r1 with hb5 | hb5
 ·replace h := bif_t hb5 h
  refine st_g (v := (I Au)) (congrArg some hb5) (rv_move rfl) ?_
  revert h; refine br fun r6 hx7 h => ?_
  have hc8 := c_impl_validKind hx7
  refine st_call (cx_call hc8 (ent_f hc8.fn rfl) hn0 (H.sel' [0, 1] rfl rfl : Hp S0 σ0 _ ([] ++ _))) (wanted_yes rfl (by exact (congrArg some hb5))) ?_
  rintro _ σ9 ⟨_, ⟨rfl, rfl⟩, H, -⟩
  replace H : Hp _ _ _ [_, _] := H
  refine st (v := (B r6)) (rv_pick_t (congrArg B hb5) rfl) (sm (B r6) rfl ?_)
  rcases Bool.eq_false_or_eq_true r6 with hb10 | hb10
  ·replace h := bif_t hb10 h
   refine st_g (v := (Sl Ax Av Ay)) (congrArg some hb10) (rv_move rfl) ?_
   revert h; refine br fun r11 hx12 h => ?_
   have hc13 := c_impl_ValidVector (Af := Ax) (Ag := Ay) hx12
   refine st_call (cx_call hc13 (ent_f hc13.fn rfl) hn0 (H.sel' [1, 0, 1] rfl rfl : Hp S0 σ0 _ ([_] ++ _))) (wanted_yes rfl (by exact (congrArg some hb10))) ?_
   rintro _ σ14 ⟨_, ⟨rfl, rfl⟩, H, -⟩
   replace H : Hp _ _ _ [_, _] := H
   refine st (v := (B r11)) (rv_pick_t (congrArg B hb10) rfl) (sm (B r11) rfl ?_)
   rcases Bool.eq_false_or_eq_true r11 with hb15 | hb15
   ·replace h := bif_t hb15 h
    refine st_g (v := (I Aw)) (congrArg some hb15) (rv_move rfl) ?_
    revert h; refine br fun r16 hx17 h => ?_
    have hc18 := c_impl_validCount hx17
    refine st_call (cx_call hc18 (ent_f hc18.fn rfl) hn0 (H.sel' [0, 1] rfl rfl : Hp S0 σ0 _ ([] ++ _))) (wanted_yes rfl (by exact (congrArg some hb15))) ?_
    rintro _ σ19 ⟨_, ⟨rfl, rfl⟩, H, -⟩
    replace H : Hp _ _ _ [_, _] := H
    refine st (v := (B r16)) (rv_pick_t (congrArg B hb15) rfl) (sa (B r16) rfl (w_end (q_then (c_ret ?_))))
    obtain rfl := sj h
    exact fin_ret (v := (B r16)) (results_ok Tryz.results54 (res_tmp (v := (B r16)) rfl res_nil) rfl) ⟨rfl, rfl⟩ (H.sel' [] rfl rfl)
   ·replace h := bif_f hb15 h
    refine st_skip (congrArg some hb15) (st_skip (congrArg some hb15) (st (v := (B false)) (rv_pick_f (congrArg B hb15) rfl) (sa (B false) rfl (w_end (q_then (c_ret ?_))))))
    obtain rfl := sj h
    exact fin_ret (v := (B false)) (results_ok Tryz.results54 (res_tmp (v := (B false)) rfl res_nil) rfl) ⟨rfl, rfl⟩ (H.sel' [] rfl rfl)
  ·replace h := bif_f hb10 h
   refine st_skip (congrArg some hb10) (st_skip (congrArg some hb10) (st (v := (B false)) (rv_pick_f (congrArg B hb10) rfl) (sm (B false) rfl (st_skip rfl (st_skip rfl (st (v := (B false)) (rv_pick_f rfl rfl) (sa (B false) rfl (w_end (q_then (c_ret ?_))))))))))
   obtain rfl := sj h
   exact fin_ret (v := (B false)) (results_ok Tryz.results54 (res_tmp (v := (B false)) rfl res_nil) rfl) ⟨rfl, rfl⟩ (H.sel' [] rfl rfl)
 ·replace h := bif_f hb5 h
  refine st_skip (congrArg some hb5) (st_skip (congrArg some hb5) (st (v := (B false)) (rv_pick_f (congrArg B hb5) rfl) (sm (B false) rfl (st_skip rfl (st_skip rfl (st (v := (B false)) (rv_pick_f rfl rfl) (sm (B false) rfl (st_skip rfl (st_skip rfl (st (v := (B false)) (rv_pick_f rfl rfl) (sa (B false) rfl ?_)))))))))))
  refine w_end (q_then (c_ret ?_))
  obtain rfl := sj h
  exact fin_ret (v := (B false)) (results_ok Tryz.results54 (res_tmp (v := (B false)) rfl res_nil) rfl) ⟨rfl, rfl⟩ (H.sel' [] rfl rfl)

theorem c_impl_hitHeap_Push__impl_Hit {Az : List (Int × Int)} {Ba : Int × Int} {Bb : Option Addr} {Bc : Nat} {Bd Be Bf : Nat} {Bg Bh : List Value} {r : (List (Int × Int))} (h : M.impl_hitHeap_Push__impl_Hit Az Ba = some r) :
    Cal2 Tryz.prog 251 [(pt Be Bf), (.iface 43 (.agg #[(I Ba.1), (I Ba.2)]))] [Ch.bx Bd Be Bf [(Sl Bb Az Bc)] Bg Bh, Ch.own 0 0 (Sl Bb Az Bc) Az] (fun n0 v L => ∃ (az1 : Option Addr), ∃ (cz2 : Nat), v = (.tuple #[]) ∧ L = [Ch.bx Bd Be Bf [(Sl az1 r cz2)] Bg Bh, Ch.own 0 0 (Sl az1 r cz2) r]) := by
 refine cal2 (n := 13) Tryz.func251 rfl rfl rfl rfl ?_
 intro S0 σ0 n0 hn0 H
 unfold M.impl_hitHeap_Push__impl_Hit at h
 have hc1 := H.cell (u := (Sl Bb Az Bc)) (o' := Bf) 0 0 rfl rfl rfl
 revert h; refine br fun xs3 hx4 h => ?_
 have Hs := H
 refine rg2 (σ := σ0) (Nm := (Nat) × (Option Addr) × (Nat)) 8 [6, 7] [[false, false], [true, false], [true, true]] [[(0, 0), (1, 1), (2, 2)], [(0, 0), (1, 1)], [(0, 0), (1, 1)], [(0, 0), (1, 1)], [(0, 0)], [(0, 0)], [(0, 1)], [(1, 2)]] 2 [fun ((b2, a5, c6) : (Nat) × (Option Addr) × (Nat)) => fun σm => Hp S0 σ0 σm [Ch.bx Bd Be Bf [(Sl Bb Az Bc)] Bg Bh, Ch.own 0 0 (Sl Bb Az Bc) Az] ∧ Md (cov []) σ0 σm, fun ((b2, a5, c6) : (Nat) × (Option Addr) × (Nat)) => fun σm => Hp S0 σ0 σm [Ch.own n0 n0 (Sl (some ⟨b2, 0, none⟩) ([(Ba.1, Ba.2)] : List (Int × Int)) 1) ([(Ba.1, Ba.2)] : List (Int × Int)), Ch.bx Bd Be Bf [(Sl Bb Az Bc)] Bg Bh, Ch.own 0 0 (Sl Bb Az Bc) Az] ∧ Md (cov []) σ0 σm, fun ((b2, a5, c6) : (Nat) × (Option Addr) × (Nat)) => fun σm => Hp S0 σ0 σm [Ch.own 0 0 (Sl a5 xs3 c6) xs3, Ch.own n0 n0 (Sl (some ⟨b2, 0, none⟩) ([(Ba.1, Ba.2)] : List (Int × Int)) 1) ([(Ba.1, Ba.2)] : List (Int × Int)), Ch.bx Bd Be Bf [(Sl Bb Az Bc)] Bg Bh] ∧ Md (fun i => (cov []) i ∨ (fun b => blk (Sl Bb Az Bc) = some b) i) σ0 σm] [fun ((b2, a5, c6) : (Nat) × (Option Addr) × (Nat)) => (pt Be Bf), fun ((b2, a5, c6) : (Nat) × (Option Addr) × (Nat)) => (pt Be Bf), fun ((b2, a5, c6) : (Nat) × (Option Addr) × (Nat)) => (pt Be Bf), fun ((b2, a5, c6) : (Nat) × (Option Addr) × (Nat)) => (Sl Bb Az Bc), fun ((b2, a5, c6) : (Nat) × (Option Addr) × (Nat)) => (.iface 43 (.agg #[(I Ba.1), (I Ba.2)])), fun ((b2, a5, c6) : (Nat) × (Option Addr) × (Nat)) => (.agg #[(I Ba.1), (I Ba.2)]), fun ((b2, a5, c6) : (Nat) × (Option Addr) × (Nat)) => (Sl (some ⟨b2, 0, none⟩) ([(Ba.1, Ba.2)] : List (Int × Int)) 1), fun ((b2, a5, c6) : (Nat) × (Option Addr) × (Nat)) => (Sl a5 xs3 c6)] (0, none, 0) (by kernel_rfl) (by kernel_rfl) ?_ ?_ ?_
 ·intro σm m0
  exact ⟨H.grow (m0.mono fun _ h => h.elim), m0⟩
 ·refine ac rfl (by
    intro k; rintro ⟨b2, a5, c6⟩ ρ σm hJ hoff hdep
    have e0 := look_off (N := 13) (hoff 0 rfl) rfl
    exact dp_v (v := (pt Be Bf)) wn (rv_move e0) rfl hJ) ?_
  refine ac rfl (by
    intro k; rintro ⟨b2, a5, c6⟩ ρ σm hJ hoff hdep
    have e0 := look_off (N := 13) (hoff 0 rfl) rfl
    exact dp_v (v := (pt Be Bf)) wn (rv_move e0) rfl hJ) ?_
  refine ac rfl (by
    intro k; rintro ⟨b2, a5, c6⟩ ρ σm hJ hoff hdep
    have e5 := hdep 1 rfl rfl 5 rfl
    exact dp_v (v := (pt Be Bf)) wn (rv_nilCheck e5) rfl hJ) ?_
  refine all_cons (by
    refine ⟨?_, ?_⟩
    ·rintro ⟨b2, a5, c6⟩ ρ σm hJ hoff hdep
     have e6 := hdep 2 rfl rfl 6 rfl
     obtain ⟨H, m⟩ := id hJ
     have hc1 := H.cell (u := (Sl Bb Az Bc)) (o' := Bf) 0 0 rfl rfl rfl
     exact dp_v (v := (Sl Bb Az Bc)) wn (rv_load1 Tryz.underlying132 rfl e6 hc1) rfl hJ
    refine ⟨?_, ?_⟩
    ·rintro ⟨b2, a5, c6⟩ ρ σm hJ hoff hdep
     have e6 := hdep 2 rfl rfl 6 rfl
     obtain ⟨H, m⟩ := id hJ
     have hc1 := H.cell (u := (Sl Bb Az Bc)) (o' := Bf) 1 0 rfl rfl rfl
     exact dp_v (v := (Sl Bb Az Bc)) wn (rv_load1 Tryz.underlying132 rfl e6 hc1) rfl hJ
    trivial) ?_
  refine ac rfl (by
    intro k; rintro ⟨b2, a5, c6⟩ ρ σm hJ hoff hdep
    have e1 := look_off (N := 13) (hoff 1 rfl) rfl
    exact dp_v (v := (.iface 43 (.agg #[(I Ba.1), (I Ba.2)]))) wn (rv_move e1) rfl hJ) ?_
  refine ac rfl (by
    intro k; rintro ⟨b2, a5, c6⟩ ρ σm hJ hoff hdep
    have e8 := hdep 4 rfl rfl 8 rfl
    exact dp_v (v := (.agg #[(I Ba.1), (I Ba.2)])) wn (rv_typeAssert Tryz.underlying43 rfl e8) rfl hJ) ?_
  refine all_cons (by
    refine ⟨?_, ?_⟩
    ·rintro ⟨b2, a5, c6⟩ ρ σm hJ hoff hdep
     have e9 : look 13 ρ 9 = (.agg #[(I Ba.1), (I Ba.2)]) := hdep 5 rfl rfl 9 rfl
     obtain ⟨H, m⟩ := id hJ
     refine dp_ex wn (ex_buildSlice (el := n0) (xs := ([(Ba.1, Ba.2)] : List (Int × Int))) (ps := [(0, (.agg #[(I Ba.1), (I Ba.2)]))]) (cs := [(I Ba.1), (I Ba.2)]) H hn0 Tryz.underlying132 ti43 rfl (by show [(0, look 13 ρ 9)] = _; rw [e9]) (by kernel_rfl) (.cons (c := [(I Ba.1), (I Ba.2)]) ⟨[(I Ba.1)], [(I Ba.2)], rfl, rfl, rfl⟩ (.nil)) rfl) ?_
     rintro _ σq ⟨b2x, rfl, H2, m2⟩
     exact ⟨_, (b2x, a5, c6), rfl, rfl, ⟨H2.sel' [0, 1, 2] rfl rfl, m.comp0 m2⟩, stab [0, 1, 2, 3, 4, 5] (by kernel_rfl) ⟨rfl, rfl, rfl, rfl, rfl, rfl, trivial⟩⟩
    trivial) ?_
  refine all_cons (by
    refine ⟨?_, ?_⟩
    ·rintro ⟨b2, a5, c6⟩ ρ σm hJ hoff hdep
     have e7 := hdep 3 rfl rfl 7 rfl
     have e10 := hdep 6 rfl rfl 10 rfl
     obtain ⟨H, m⟩ := id hJ
     refine dp_ex wn (ex_append H (i := 2) rfl Tryz.underlying132 Tryz.underlying132 ti43 rfl rfl (by decide) ((H.own 0 rfl).rd.sc) hx4 (Nat.zero_le _) e7 e10) ?_
     rintro _ σq ⟨a5x, c6x, rfl, H2, m2⟩
     exact ⟨_, (b2, a5x, c6x), rfl, rfl, ⟨H2.sel' [0, 1, 2] rfl rfl, m.comp m2⟩, stab [0, 1, 2, 3, 4, 5, 6] (by kernel_rfl) ⟨rfl, rfl, rfl, rfl, rfl, rfl, rfl, trivial⟩⟩
    trivial) ?_
  exact all_nil
 ·rintro ⟨b2, a5, c6⟩ ρ σ7 hJ hoff hrel
  have e0 := look_off (N := 13) (hoff 0 rfl) rfl
  have e4 := hrel 0 rfl 4 rfl
  have e11 := hrel 7 rfl 11 rfl
  obtain ⟨H, -⟩ := (show Hp S0 σ0 σ7 [Ch.own 0 0 (Sl a5 xs3 c6) xs3, Ch.own n0 n0 (Sl (some ⟨b2, 0, none⟩) ([(Ba.1, Ba.2)] : List (Int × Int)) 1) ([(Ba.1, Ba.2)] : List (Int × Int)), Ch.bx Bd Be Bf [(Sl Bb Az Bc)] Bg Bh] ∧ Md (fun i => (cov []) i ∨ (fun b => blk (Sl Bb Az Bc) = some b) i) σ0 σ7 from hJ)
  clear hJ Hs
  rw [fr_lookL (L := [(0, (pt Be Bf)), (4, (pt Be Bf)), (11, (Sl a5 xs3 c6))]) ⟨e0, e4, e11, trivial⟩]
  clear hoff hrel e0 e4 e11
  refine st (v := (pt Be Bf)) (rv_nilCheck rfl) ?_
  refine st_exS (ex_store_box (k := 0) (cs := [(Sl Bb Az Bc)]) (vs := [(Sl a5 xs3 c6)]) (cs' := [(Sl a5 xs3 c6)]) H (i := 2) rfl ti132 rfl rfl rfl rfl rfl (Nat.le_of_ble_eq_true rfl) (by simp [plain]) rfl) wn ?_
  rintro σ8 ⟨H, -⟩
  refine w_end ?_
  obtain rfl := sj h
  exact fin_end (v := (.tuple #[])) (results_ok Tryz.results251 res_nil rfl) ⟨a5, c6, rfl, rfl⟩ (H.sel' [0, 1] rfl rfl)

theorem c_impl_hitHeap_Len {Az : List (Int × Int)} {Bb : Option Addr} {Bc : Nat} {r : Int} (h : M.impl_hitHeap_Len Az = some r) :
    Cal2 Tryz.prog 246 [(Sl Bb Az Bc)] [Ch.ro 0 (Sl Bb Az Bc) Az] (fun n0 v L => v = (I r) ∧ L = []) := by
 refine cal2 (n := 5) Tryz.func246 rfl rfl rfl rfl ?_
 intro S0 σ0 n0 hn0 H
 unfold M.impl_hitHeap_Len at h
 refine c_seq (rg (sa (I 0) rfl (w_end (q_then (c_seq (rg (sm (Sl Bb Az Bc) rfl (st (v := (I (Az.length : Int))) (rv_len Tryz.underlying132 rfl) (sa (I (Az.length : Int)) rfl (w_end (q_then ?_)))))))))))
 refine c_ret ?_
 obtain rfl := sj h
 exact fin_ret (v := (I (Az.length : Int))) (results_ok Tryz.results246 (res_tmp (v := (I (Az.length : Int))) rfl res_nil) rfl) ⟨rfl, rfl⟩ (H.sel' [] rfl rfl)

theorem c_cmp_isNaN_int {Aj : Int}  {r : Bool} (h : M.cmp_isNaN_int Aj = some r) :
    Cal2 Tryz.prog 175 [(I Aj)] [] (fun n0 v L => v = (B r) ∧ L = []) := by
 refine cal2 (n := 6) Tryz.func175 rfl rfl rfl rfl ?_
 intro S0 σ0 n0 hn0 H
 unfold M.cmp_isNaN_int at h
 refine c_seq (rg (sa (B false) rfl (w_end (q_then (c_seq (rg (sm (I Aj) rfl (sm (I Aj) rfl (st (v := (B (Aj != Aj))) (rv_neq (a := Aj) (b := Aj) rfl rfl) (sa (B (Aj != Aj)) rfl (w_end ?_)))))))))))
 refine q_then (c_ret ?_)
 obtain rfl := sj h
 exact fin_ret (v := (B (Aj != Aj))) (results_ok Tryz.results175 (res_tmp (v := (B (Aj != Aj))) rfl res_nil) rfl) ⟨rfl, rfl⟩ (H.sel' [] rfl rfl)

theorem c_cmp_Compare_int {Aj : Int} {Bi : Int}  {r : Int} (h : M.cmp_Compare_int Aj Bi = some r) :
    Cal2 Tryz.prog 145 [(I Aj), (I Bi)] [] (fun n0 v L => v = (I r) ∧ L = []) := by
 refine cal2 (n := 20) Tryz.func145 rfl rfl rfl rfl ?_
 intro S0 σ0 n0 hn0 H
 unfold M.cmp_Compare_int at h
 refine c_seq (rg (sa (I 0) rfl (w_end (q_then (c_seq (rg (sm (I Aj) rfl ?_)))))))
 revert h; refine br fun r1 hx2 h => ?_
 have hc3 := c_cmp_isNaN_int hx2
 refine st_call (cx_call hc3 (ent_f hc3.fn rfl) hn0 (H.sel' [] rfl rfl : Hp S0 σ0 _ ([] ++ _))) wn ?_
 rintro _ σ4 ⟨_, ⟨rfl, rfl⟩, H, -⟩
 replace H : Hp _ _ _ [] := H
 refine sa (B r1) rfl (w_end (q_then (c_seq (rg (sm (I Bi) rfl ?_)))))
 revert h; refine br fun r5 hx6 h => ?_
 have hc7 := c_cmp_isNaN_int hx6
 refine st_call (cx_call hc7 (ent_f hc7.fn rfl) hn0 (H.sel' [] rfl rfl : Hp S0 σ0 _ ([] ++ _))) wn ?_
 rintro _ σ8 ⟨_, ⟨rfl, rfl⟩, H, -⟩
 replace H : Hp _ _ _ [] := H
 refine sa (B r5) rfl (w_end (q_then (c_seq (c_seq (rg (sm (B r1) rfl (w_end (q_then ?_))))))))
 refine cd_cond r1 rfl (fun hb9 => ?_) (fun hb9 => ?_)
 ·replace h := bif_t hb9 h
  refine c_seq (c_seq (rg (sm (B r5) rfl (w_end (q_then ?_)))))
  refine cd_cond r5 rfl (fun hb10 => ?_) (fun hb10 => ?_)
  ·replace h := bif_t hb10 h
   refine c_seq (rg (sa (I 0) rfl (w_end (q_then (c_ret (q_then_r (q_then_r ?_)))))))
   obtain rfl := sj h
   exact fin_ret (v := (I 0)) (results_ok Tryz.results145 (res_tmp (v := (I 0)) rfl res_nil) rfl) ⟨rfl, rfl⟩ (H.sel' [] rfl rfl)
  ·replace h := bif_f hb10 h
   refine c_skip (q_then (c_seq (rg (sa (I (-1)) rfl (w_end (q_then (c_ret (q_then_r ?_))))))))
   obtain rfl := sj h
   exact fin_ret (v := (I (-1))) (results_ok Tryz.results145 (res_tmp (v := (I (-1))) rfl res_nil) rfl) ⟨rfl, rfl⟩ (H.sel' [] rfl rfl)
 ·replace h := bif_f hb9 h
  refine c_skip (q_then (c_seq (c_seq (rg (sm (B r5) rfl (w_end (q_then ?_)))))))
  refine cd_cond r5 rfl (fun hb11 => ?_) (fun hb11 => ?_)
  ·replace h := bif_t hb11 h
   refine c_seq (rg (sa (I 1) rfl (w_end (q_then (c_ret (q_then_r ?_))))))
   obtain rfl := sj h
   exact fin_ret (v := (I 1)) (results_ok Tryz.results145 (res_tmp (v := (I 1)) rfl res_nil) rfl) ⟨rfl, rfl⟩ (H.sel' [] rfl rfl)
  ·replace h := bif_f hb11 h
   refine c_skip (q_then (c_seq (c_seq (rg (sm (I Aj) rfl (sm (I Bi) rfl (st (v := (B (decide (Aj < Bi)))) (rv_lss (a := Aj) (b := Bi) rfl rfl) (w_end (q_then ?_)))))))))
   refine cd_cond (decide (Aj < Bi)) rfl (fun hb12 => ?_) (fun hb12 => ?_)
   ·replace h := bif_t hb12 h
    refine c_seq (rg (sa (I (-1)) rfl (w_end (q_then (c_ret (q_then_r ?_))))))
    obtain rfl := sj h
    exact fin_ret (v := (I (-1))) (results_ok Tryz.results145 (res_tmp (v := (I (-1))) rfl res_nil) rfl) ⟨rfl, rfl⟩ (H.sel' [] rfl rfl)
   ·replace h := bif_f hb12 h
    refine c_skip (q_then (c_seq (c_seq (rg (sm (I Aj) rfl (sm (I Bi) rfl (st (v := (B (decide (Bi < Aj)))) (rv_gtr (a := Aj) (b := Bi) rfl rfl) (w_end (q_then ?_)))))))))
    refine cd_cond (decide (Bi < Aj)) rfl (fun hb13 => ?_) (fun hb13 => ?_)
    ·replace h := bif_t hb13 h
     refine c_seq (rg (sa (I 1) rfl (w_end (q_then (c_ret (q_then_r ?_))))))
     obtain rfl := sj h
     exact fin_ret (v := (I 1)) (results_ok Tryz.results145 (res_tmp (v := (I 1)) rfl res_nil) rfl) ⟨rfl, rfl⟩ (H.sel' [] rfl rfl)
    ·replace h := bif_f hb13 h
     refine c_skip (q_then (c_seq (rg (sa (I 0) rfl (w_end (q_then (c_ret ?_)))))))
     obtain rfl := sj h
     exact fin_ret (v := (I 0)) (results_ok Tryz.results145 (res_tmp (v := (I 0)) rfl res_nil) rfl) ⟨rfl, rfl⟩ (H.sel' [] rfl rfl)

theorem c_cmp_Or_int {Bj : List Int} {Bk : Option Addr} {Bl : Nat} {r : Int} (h : M.cmp_Or_int Bj = some r) :
    Cal2 Tryz.prog 147 [(Sl Bk Bj Bl)] [Ch.ro 0 (Sl Bk Bj Bl) Bj] (fun n0 v L => v = (I r) ∧ L = []) := by
 refine cal2 (n := 18) Tryz.func147 rfl rfl rfl rfl ?_
 intro S0 σ0 n0 hn0 H
 unfold M.cmp_Or_int at h
 refine c_seq (rg (sa (I 0) rfl (w_end (q_then (c_seq (rg (sa (I 0) rfl (w_end (q_then (c_seq (c_seq ?_)))))))))))
 refine rg (sm (Sl Bk Bj Bl) rfl (st (v := (I (Bj.length : Int))) (rv_len Tryz.underlying27 rfl) (sm (I 0) rfl (w_end (q_then ?_)))))
 obtain ⟨o1, hj, h'⟩ := bind_some h
 clear h
 refine c_cut (fun e a w => (∃ t, o1 = (.inl t) ∧ e = .normal ∧ ∃ (ρ : Nat → Value) (σ : St), a = fr 18 (updL ρ [(3, (I 0))]) ∧ w = σ.w ∧ Hp S0 σ0 σ []) ∨ (∃ t, o1 = (.inr t) ∧ e = .ret ∧ ∃ (ρ : Nat → Value) (σ : St), a = fr 18 (updL ρ [(2, (I t))]) ∧ w = σ.w ∧ Hp S0 σ0 σ [])) ?_ ?_
 ·clear h'
  rename _ = some o1 => h
  refine c_blk (wp_loopM _ h (fun s2 a w => ∃ (ρ : Nat → Value) (σ : St), a = fr 18 (updL ρ [(3, (I 0)), (6, (Sl Bk Bj Bl)), (7, (I (Bj.length : Int))), (8, (I s2))]) ∧ w = σ.w ∧ Hp S0 σ0 σ [Ch.ro 0 (Sl Bk Bj Bl) Bj]) ⟨_, σ0, fr_join ⟨rfl, rfl, rfl, rfl, trivial⟩, rfl, H.sel' [0] rfl rfl⟩ ?_)
  clear h H
  rintro s2 a w o ⟨ρ, σ3, rfl, rfl, H⟩ h hres
  refine c_seq (rg (st (v := (B (decide (s2 < (Bj.length : Int))))) (rv_lss (a := s2) (b := (Bj.length : Int)) rfl rfl) (w_end (q_then (c_seq ?_)))))
  refine cd_cond (decide (s2 < (Bj.length : Int))) rfl (fun hb4 => ?_) (fun hb4 => ?_)
  ·replace h := bif_t hb4 h
   refine c_skip (q_then (c_seq (c_blk (c_seq (rg ?_)))))
   revert h; refine br fun x5 hx6 h => ?_
   obtain ⟨b8, o9, hi7, -⟩ := (H.ro 0 rfl).ix hx6
   refine st (v := (pt b8 o9)) (rv_ix Tryz.underlying27 ti3 rfl rfl hi7) ?_
   have hc10 := ((H.ro 0 rfl).at hx6 hi7).int
   refine st (v := (I x5)) (rv_load1 Tryz.underlying3 rfl rfl hc10) (sa (I x5) rfl (w_end (q_then (c_seq (rg (sm (I x5) rfl (sm (I 0) rfl (st (v := (B (x5 != 0))) (rv_neq (a := x5) (b := 0) rfl rfl) (w_end (q_then ?_))))))))))
   refine cd_cond (x5 != 0) rfl (fun hb11 => ?_) (fun hb11 => ?_)
   ·replace h := bif_t hb11 h
    refine c_seq (rg (sm (I x5) rfl (sa (I x5) rfl (w_end (q_then (c_ret (q_blk_r (q_then_r (q_then_r (q_blk_r ?_))))))))))
    obtain rfl := sj h
    obtain rfl := hres _ rfl
    exact .inr (⟨_, rfl, rfl, _, σ3, fr_join ⟨rfl, trivial⟩, rfl, H.sel' [] rfl rfl⟩)
   ·replace h := bif_f hb11 h
    refine c_skip (q_blk (q_then (rg (st (v := (I (w64 (s2 + 1)))) (rv_add (a := s2) (b := 1) rfl rfl) (sm (I (w64 (s2 + 1))) rfl (w_end (q_then ?_)))))))
    obtain rfl := sj h
    exact ⟨_, rfl, _, σ3, fr_join ⟨rfl, rfl, rfl, rfl, trivial⟩, rfl, H.sel' [0] rfl rfl⟩
  ·replace h := bif_f hb4 h
   refine c_exit (q_then_x (q_then_x (q_blk_hit ?_)))
   obtain rfl := sj h
   obtain rfl := hres _ rfl
   exact .inl ⟨_, rfl, rfl, _, σ3, fr_join ⟨rfl, trivial⟩, rfl, H.sel' [] rfl rfl⟩
 ·clear hj
  have h := h'
  clear h' H
  rintro e a w (⟨t12, rfl, rfl, ρ, σ13, rfl, rfl, H⟩ | ⟨t14, rfl, rfl, ρ, σ15, rfl, rfl, H⟩)
  ·replace h := selim_l h
   refine q_then (c_seq (rg (sm (I 0) rfl (sa (I 0) rfl (w_end (q_then (c_ret ?_)))))))
   obtain rfl := sj h
   exact fin_ret (v := (I 0)) (results_ok Tryz.results147 (res_tmp (v := (I 0)) rfl res_nil) rfl) ⟨rfl, rfl⟩ (H.sel' [] rfl rfl)
  ·replace h := selim_r h
   refine q_then_r ?_
   obtain rfl := sj h
   exact fin_ret (v := (I t14)) (results_ok Tryz.results147 (res_tmp (v := (I t14)) rfl res_nil) rfl) ⟨rfl, rfl⟩ (H.sel' [] rfl rfl)

theorem c_impl_compareHits {Bm : Int × Int} {Bn : Int × Int}  {r : Int} (h : M.impl_compareHits Bm Bn = some r) :
    Cal2 Tryz.prog 98 [(.agg #[(I Bm.1), (I Bm.2)]), (.agg #[(I Bn.1), (I Bn.2)])] [] (fun n0 v L => v = (I r) ∧ L = []) := by
 refine cal2 (n := 17) Tryz.func98 rfl rfl rfl rfl ?_
 intro S0 σ0 n0 hn0 H
 unfold M.impl_compareHits at h
 refine c_seq (rg (st_ex (ex_box (cs := [(I Bm.1), (I Bm.2)]) H hn0 rfl rfl) wn ?_))
 rintro _ σ2 ⟨b1, rfl, H, -⟩
 refine st_ex (ex_box (cs := [(I Bn.1), (I Bn.2)]) H hn0 rfl rfl) wn ?_
 rintro _ σ4 ⟨b3, rfl, H, -⟩
 refine sa (I 0) rfl (w_end (q_then (c_seq ?_)))
 have hc5 := H.cell (u := (I Bm.2)) (o' := 1) 1 1 rfl rfl rfl
 have hc6 := H.cell (u := (I Bn.2)) (o' := 1) 0 1 rfl rfl rfl
 revert h; refine br fun r7 hx8 h => ?_
 have hc9 := c_cmp_Compare_int hx8
 have hc10 := H.cell (u := (I Bm.1)) (o' := 0) 1 0 rfl rfl rfl
 have hc11 := H.cell (u := (I Bn.1)) (o' := 0) 0 0 rfl rfl rfl
 have Hs := H
 refine rg2 (σ := σ4) (Nm := Unit) 9 [4] [[false], [true]] [[(0, 0)], [(0, 0)], [(0, 0)], [(0, 0)], [(0, 1)], [(0, 0), (1, 1)], [(0, 0), (1, 1)], [(0, 0), (1, 1)], [(0, 0), (1, 1)]] 1 [fun _ => fun σm => Hp S0 σ0 σm [Ch.bx n0 b3 0 [(I Bn.1), (I Bn.2)] [] [], Ch.bx n0 b1 0 [(I Bm.1), (I Bm.2)] [] []] ∧ Md (cov []) σ4 σm, fun _ => fun σm => Hp S0 σ0 σm [Ch.bx n0 b3 0 [(I Bn.1), (I Bn.2)] [] [], Ch.bx n0 b1 0 [(I Bm.1), (I Bm.2)] [] []] ∧ Md (cov []) σ4 σm] [fun _ => (pt b1 1), fun _ => (I Bm.2), fun _ => (pt b3 1), fun _ => (I Bn.2), fun _ => (I r7), fun _ => (pt b1 0), fun _ => (I Bm.1), fun _ => (pt b3 0), fun _ => (I Bn.1)] () (by kernel_rfl) (by kernel_rfl) ?_ ?_ ?_
 ·intro σm m0
  exact ⟨H.grow (m0.mono fun _ h => h.elim), m0⟩
 ·refine ac rfl (by
    intro k _nm ρ σm hJ hoff hdep
    have e2 := look_off (N := 17) (hoff 2 rfl) rfl
    exact dp_v (v := (pt b1 1)) wn (rv_fieldAddr (off := 1) (ft := 3) Tryz.underlying43 rfl ti3 rfl e2) rfl hJ) ?_
  refine all_cons (by
    refine ⟨?_, ?_⟩
    ·intro _nm ρ σm hJ hoff hdep
     have e5 := hdep 0 rfl rfl 5 rfl
     obtain ⟨H, m⟩ := id hJ
     have hc5 := H.cell (u := (I Bm.2)) (o' := 1) 1 1 rfl rfl rfl
     exact dp_v (v := (I Bm.2)) wn (rv_load1 Tryz.underlying3 rfl e5 hc5) rfl hJ
    trivial) ?_
  refine ac rfl (by
    intro k _nm ρ σm hJ hoff hdep
    have e3 := look_off (N := 17) (hoff 3 rfl) rfl
    exact dp_v (v := (pt b3 1)) wn (rv_fieldAddr (off := 1) (ft := 3) Tryz.underlying43 rfl ti3 rfl e3) rfl hJ) ?_
  refine all_cons (by
    refine ⟨?_, ?_⟩
    ·intro _nm ρ σm hJ hoff hdep
     have e7 := hdep 2 rfl rfl 7 rfl
     obtain ⟨H, m⟩ := id hJ
     have hc6 := H.cell (u := (I Bn.2)) (o' := 1) 0 1 rfl rfl rfl
     exact dp_v (v := (I Bn.2)) wn (rv_load1 Tryz.underlying3 rfl e7 hc6) rfl hJ
    trivial) ?_
  refine all_cons (by
    refine ⟨?_, ?_⟩
    ·intro _nm ρ σm hJ hoff hdep
     have e6 : look 17 ρ 6 = (I Bm.2) := hdep 1 rfl rfl 6 rfl
     have e8 : look 17 ρ 8 = (I Bn.2) := hdep 3 rfl rfl 8 rfl
     obtain ⟨H, m⟩ := id hJ
     refine dp_cx wn (cx_call hc9 (ent_f hc9.fn (by show [look 17 ρ 6, look 17 ρ 8] = _; rw [e6, e8])) hn0 (H.sel' [0, 1] rfl rfl : Hp S0 σ0 _ ([] ++ _))) ?_
     rintro _ σq ⟨_, ⟨rfl, rfl⟩, H2, m2⟩
     exact ⟨_, (), rfl, rfl, ⟨H2.sel' [0, 1] rfl rfl, m.comp0 m2⟩, stab [0, 1, 2, 3, 5, 6, 7, 8] (by kernel_rfl) ⟨rfl, rfl, rfl, rfl, rfl, rfl, rfl, rfl, trivial⟩⟩
    trivial) ?_
  refine ac rfl (by
    intro k _nm ρ σm hJ hoff hdep
    have e2 := look_off (N := 17) (hoff 2 rfl) rfl
    exact dp_v (v := (pt b1 0)) wn (rv_fieldAddr (off := 0) (ft := 3) Tryz.underlying43 rfl ti3 rfl e2) rfl hJ) ?_
  refine all_cons (by
    refine ⟨?_, ?_⟩
    ·intro _nm ρ σm hJ hoff hdep
     have e10 := hdep 5 rfl rfl 10 rfl
     obtain ⟨H, m⟩ := id hJ
     have hc10 := H.cell (u := (I Bm.1)) (o' := 0) 1 0 rfl rfl rfl
     exact dp_v (v := (I Bm.1)) wn (rv_load1 Tryz.underlying3 rfl e10 hc10) rfl hJ
    refine ⟨?_, ?_⟩
    ·intro _nm ρ σm hJ hoff hdep
     have e10 := hdep 5 rfl rfl 10 rfl
     obtain ⟨H, m⟩ := id hJ
     have hc10 := H.cell (u := (I Bm.1)) (o' := 0) 1 0 rfl rfl rfl
     exact dp_v (v := (I Bm.1)) wn (rv_load1 Tryz.underlying3 rfl e10 hc10) rfl hJ
    trivial) ?_
  refine ac rfl (by
    intro k _nm ρ σm hJ hoff hdep
    have e3 := look_off (N := 17) (hoff 3 rfl) rfl
    exact dp_v (v := (pt b3 0)) wn (rv_fieldAddr (off := 0) (ft := 3) Tryz.underlying43 rfl ti3 rfl e3) rfl hJ) ?_
  refine all_cons (by
    refine ⟨?_, ?_⟩
    ·intro _nm ρ σm hJ hoff hdep
     have e12 := hdep 7 rfl rfl 12 rfl
     obtain ⟨H, m⟩ := id hJ
     have hc11 := H.cell (u := (I Bn.1)) (o' := 0) 0 0 rfl rfl rfl
     exact dp_v (v := (I Bn.1)) wn (rv_load1 Tryz.underlying3 rfl e12 hc11) rfl hJ
    refine ⟨?_, ?_⟩
    ·intro _nm ρ σm hJ hoff hdep
     have e12 := hdep 7 rfl rfl 12 rfl
     obtain ⟨H, m⟩ := id hJ
     have hc11 := H.cell (u := (I Bn.1)) (o' := 0) 0 0 rfl rfl rfl
     exact dp_v (v := (I Bn.1)) wn (rv_load1 Tryz.underlying3 rfl e12 hc11) rfl hJ
    trivial) ?_
  exact all_nil
 ·intro _nm ρ σ12 hJ hoff hrel
  have e9 := hrel 4 rfl 9 rfl
  have e11 := hrel 6 rfl 11 rfl
  have e13 := hrel 8 rfl 13 rfl
  obtain ⟨H, -⟩ := (show Hp S0 σ0 σ12 [Ch.bx n0 b3 0 [(I Bn.1), (I Bn.2)] [] [], Ch.bx n0 b1 0 [(I Bm.1), (I Bm.2)] [] []] ∧ Md (cov []) σ4 σ12 from hJ)
  clear hJ Hs
  rw [fr_lookL (L := [(9, (I r7)), (11, (I Bm.1)), (13, (I Bn.1))]) ⟨e9, e11, e13, trivial⟩]
  clear hoff hrel e9 e11 e13
  revert h; refine br fun r13 hx14 h => ?_
  have hc15 := c_cmp_Compare_int hx14
  refine st_call (cx_call hc15 (ent_f hc15.fn rfl) hn0 (H.sel' [0, 1] rfl rfl : Hp S0 σ0 _ ([] ++ _))) wn ?_
  rintro _ σ16 ⟨_, ⟨rfl, rfl⟩, H, -⟩
  replace H : Hp _ _ _ [_, _] := H
  refine st_ex (ex_buildSlice (el := n0) (xs := ([r7, r13] : List Int)) (ps := [(0, (I r7)), (1, (I r13))]) (cs := [(I r7), (I r13)]) H hn0 Tryz.underlying27 ti3 rfl rfl (by kernel_rfl) (.cons (c := [(I r7)]) rfl (.cons (c := [(I r13)]) rfl (.nil))) rfl) wn ?_
  rintro _ σ18 ⟨b17, rfl, H, -⟩
  obtain ⟨σ19, hw20, H, -⟩ := H.pub 0 rfl (Nat.le_refl _)
  rw [← hw20]; clear hw20
  replace H := H.roLow 0 0 rfl (Nat.zero_le _)
  revert h; refine br fun r21 hx22 h => ?_
  have hc23 := c_cmp_Or_int (Bk := (some ⟨b17, 0, none⟩)) (Bl := 2) hx22
  refine st_call (cx_call hc23 (ent_f hc23.fn rfl) hn0 (H.sel' [0, 0, 1, 2, 3] rfl rfl : Hp S0 σ0 _ ([_] ++ _))) wn ?_
  rintro _ σ24 ⟨_, ⟨rfl, rfl⟩, H, -⟩
  replace H : Hp _ _ _ [_, _, _, _] := H
  refine sa (I r21) rfl (w_end (q_then (c_ret ?_)))
  obtain rfl := sj h
  exact fin_ret (v := (I r21)) (results_ok Tryz.results98 (res_tmp (v := (I r21)) rfl res_nil) rfl) ⟨rfl, rfl⟩ (H.sel' [] rfl rfl)

theorem c_impl_hitHeap_Less {Az : List (Int × Int)} {Bo : Int} {Bp : Int} {Bb : Option Addr} {Bc : Nat} {r : Bool} (h : M.impl_hitHeap_Less Az Bo Bp = some r) :
    Cal2 Tryz.prog 247 [(Sl Bb Az Bc), (I Bo), (I Bp)] [Ch.ro 0 (Sl Bb Az Bc) Az] (fun n0 v L => v = (B r) ∧ L = []) := by
 refine cal2 (n := 17) Tryz.func247 rfl rfl rfl rfl ?_
 intro S0 σ0 n0 hn0 H
 unfold M.impl_hitHeap_Less at h
 refine c_seq (rg (sa (B false) rfl (w_end (q_then (c_seq ?_)))))
 refine rgP (σ := σ0) 8 (by kernel_rfl) (by kernel_rfl) (by kernel_rfl) ?_
 refine sq (v := (Sl Bb Az Bc)) (rv_move rfl) (sq (v := (I Bo)) (rv_move rfl) ?_)
 revert h; refine br fun x1 hx2 h => ?_
 obtain ⟨b4, o5, hi3, -⟩ := (H.ro 0 rfl).ix hx2
 refine sq (v := (pt b4 o5)) (rv_ix Tryz.underlying132 ti43 rfl rfl hi3) ?_
 obtain ⟨_, ⟨_, _, rfl, rfl, rfl⟩, hl6, hc7⟩ := ((H.ro 0 rfl).at hx2 hi3).cells
 refine sq (v := (.agg #[(I x1.1), (I x1.2)])) (rv_load Tryz.underlying43 rfl ti43 rfl hl6 hc7) (sq (v := (Sl Bb Az Bc)) (rv_move rfl) (sq (v := (I Bp)) (rv_move rfl) ?_))
 revert h; refine br fun x8 hx9 h => ?_
 obtain ⟨b11, o12, hi10, -⟩ := (H.ro 0 rfl).ix hx9
 refine sq (v := (pt b11 o12)) (rv_ix Tryz.underlying132 ti43 rfl rfl hi10) ?_
 obtain ⟨_, ⟨_, _, rfl, rfl, rfl⟩, hl13, hc14⟩ := ((H.ro 0 rfl).at hx9 hi10).cells
 refine sq (v := (.agg #[(I x8.1), (I x8.2)])) (rv_load Tryz.underlying43 rfl ti43 rfl hl13 hc14) (sq_end ?_)
 intro σ15 hm16
 replace H := H.grow (hm16.mono fun _ h => h); clear hm16
 revert h; refine br fun r17 hx18 h => ?_
 have hc19 := c_impl_compareHits hx18
 refine st_call (cx_call hc19 (ent_f hc19.fn rfl) hn0 (H.sel' [0] rfl rfl : Hp S0 σ0 _ ([] ++ _))) wn ?_
 rintro _ σ20 ⟨_, ⟨rfl, rfl⟩, H, -⟩
 replace H : Hp _ _ _ [_] := H
 refine st (v := (B (decide (0 < r17)))) (rv_gtr (a := r17) (b := 0) rfl rfl) (sa (B (decide (0 < r17))) rfl (w_end (q_then (c_ret ?_))))
 obtain rfl := sj h
 exact fin_ret (v := (B (decide (0 < r17)))) (results_ok Tryz.results247 (res_tmp (v := (B (decide (0 < r17)))) rfl res_nil) rfl) ⟨rfl, rfl⟩ (H.sel' [] rfl rfl)

theorem c_impl_hitHeap_Swap {Az : List (Int × Int)} {Bo : Int} {Bp : Int} {Bb : Option Addr} {Bc : Nat} {r : (List (Int × Int))} (h : M.impl_hitHeap_Swap Az Bo Bp = some r) :
    Cal2 Tryz.prog 248 [(Sl Bb Az Bc), (I Bo), (I Bp)] [Ch.own 0 0 (Sl Bb Az Bc) Az] (fun n0 v L => v = (.tuple #[]) ∧ L = [Ch.own 0 0 (Sl Bb r Bc) r] ∧ r.length = Az.length) := by
 refine cal2 (n := 20) Tryz.func248 rfl rfl rfl rfl ?_
 intro S0 σ0 n0 hn0 H
 unfold M.impl_hitHeap_Swap at h
 revert h; refine br fun x1 hx2 h => ?_
 obtain ⟨b4, o5, hi3, -⟩ := (H.own 0 rfl).ix hx2
 obtain ⟨_, ⟨_, _, rfl, rfl, rfl⟩, hl6, hc7⟩ := ((H.own 0 rfl).at hx2 hi3).cells
 revert h; refine br fun x8 hx9 h => ?_
 obtain ⟨b11, o12, hi10, -⟩ := (H.own 0 rfl).ix hx9
 obtain ⟨_, ⟨_, _, rfl, rfl, rfl⟩, hl13, hc14⟩ := ((H.own 0 rfl).at hx9 hi10).cells
 revert h; refine br fun x15 hx16 h => ?_
 obtain ⟨b18, o19, hi17, -⟩ := (H.own 0 rfl).ix hx16
 have Hs := H
 refine rg2 (σ := σ0) (Nm := Unit) 14 [13] [[false], [true]] [[(0, 0)], [(0, 0)], [(0, 0), (1, 1)], [(0, 0), (1, 1)], [(0, 0)], [(0, 0)], [(0, 0)], [(0, 0)], [(0, 0)], [(0, 0)], [(0, 0)], [(0, 0)], [(0, 0)], [(0, 1)]] 1 [fun _ => fun σm => Hp S0 σ0 σm [Ch.own 0 0 (Sl Bb Az Bc) Az] ∧ Md (cov []) σ0 σm, fun _ => fun σm => Hp S0 σ0 σm [Ch.own 0 0 (Sl Bb Az Bc) (Az.set Bo.toNat (x1.1, x1.2))] ∧ Md (fun i => (cov []) i ∨ (fun b => blk (Sl Bb Az Bc) = some b) i) σ0 σm] [fun _ => (Sl Bb Az Bc), fun _ => (I Bo), fun _ => (Sl Bb Az Bc), fun _ => (I Bp), fun _ => (Sl Bb Az Bc), fun _ => (I Bp), fun _ => (pt b4 o5), fun _ => (.agg #[(I x1.1), (I x1.2)]), fun _ => (Sl Bb Az Bc), fun _ => (I Bo), fun _ => (pt b11 o12), fun _ => (.agg #[(I x8.1), (I x8.2)]), fun _ => (pt b18 o19), fun _ => undef] () (by kernel_rfl) (by kernel_rfl) ?_ ?_ ?_
 ·intro σm m0
  exact ⟨H.grow (m0.mono fun _ h => h.elim), m0⟩
 ·refine ac rfl (by
    intro k _nm ρ σm hJ hoff hdep
    have e0 := look_off (N := 20) (hoff 0 rfl) rfl
    exact dp_v (v := (Sl Bb Az Bc)) wn (rv_move e0) rfl hJ) ?_
  refine ac rfl (by
    intro k _nm ρ σm hJ hoff hdep
    have e1 := look_off (N := 20) (hoff 1 rfl) rfl
    exact dp_v (v := (I Bo)) wn (rv_move e1) rfl hJ) ?_
  refine ac rfl (by
    intro k _nm ρ σm hJ hoff hdep
    have e0 := look_off (N := 20) (hoff 0 rfl) rfl
    exact dp_v (v := (Sl Bb Az Bc)) wn (rv_move e0) rfl hJ) ?_
  refine ac rfl (by
    intro k _nm ρ σm hJ hoff hdep
    have e2 := look_off (N := 20) (hoff 2 rfl) rfl
    exact dp_v (v := (I Bp)) wn (rv_move e2) rfl hJ) ?_
  refine ac rfl (by
    intro k _nm ρ σm hJ hoff hdep
    have e0 := look_off (N := 20) (hoff 0 rfl) rfl
    exact dp_v (v := (Sl Bb Az Bc)) wn (rv_move e0) rfl hJ) ?_
  refine ac rfl (by
    intro k _nm ρ σm hJ hoff hdep
    have e2 := look_off (N := 20) (hoff 2 rfl) rfl
    exact dp_v (v := (I Bp)) wn (rv_move e2) rfl hJ) ?_
  refine ac rfl (by
    intro k _nm ρ σm hJ hoff hdep
    have e10 := hdep 4 rfl rfl 10 rfl
    have e11 := hdep 5 rfl rfl 11 rfl
    exact dp_v (v := (pt b4 o5)) wn (rv_ix Tryz.underlying132 ti43 e10 e11 hi3) rfl hJ) ?_
  refine all_cons (by
    refine ⟨?_, ?_⟩
    ·intro _nm ρ σm hJ hoff hdep
     have e12 := hdep 6 rfl rfl 12 rfl
     obtain ⟨H, m⟩ := id hJ
     obtain ⟨_, ⟨_, _, rfl, rfl, rfl⟩, hl6, hc7⟩ := ((H.own 0 rfl).at hx2 hi3).cells
     exact dp_v (v := (.agg #[(I x1.1), (I x1.2)])) wn (rv_load Tryz.underlying43 rfl ti43 e12 hl6 hc7) rfl hJ
    trivial) ?_
  refine ac rfl (by
    intro k _nm ρ σm hJ hoff hdep
    have e0 := look_off (N := 20) (hoff 0 rfl) rfl
    exact dp_v (v := (Sl Bb Az Bc)) wn (rv_move e0) rfl hJ) ?_
  refine ac rfl (by
    intro k _nm ρ σm hJ hoff hdep
    have e1 := look_off (N := 20) (hoff 1 rfl) rfl
    exact dp_v (v := (I Bo)) wn (rv_move e1) rfl hJ) ?_
  refine ac rfl (by
    intro k _nm ρ σm hJ hoff hdep
    have e14 := hdep 8 rfl rfl 14 rfl
    have e15 := hdep 9 rfl rfl 15 rfl
    exact dp_v (v := (pt b11 o12)) wn (rv_ix Tryz.underlying132 ti43 e14 e15 hi10) rfl hJ) ?_
  refine all_cons (by
    refine ⟨?_, ?_⟩
    ·intro _nm ρ σm hJ hoff hdep
     have e16 := hdep 10 rfl rfl 16 rfl
     obtain ⟨H, m⟩ := id hJ
     obtain ⟨_, ⟨_, _, rfl, rfl, rfl⟩, hl13, hc14⟩ := ((H.own 0 rfl).at hx9 hi10).cells
     exact dp_v (v := (.agg #[(I x8.1), (I x8.2)])) wn (rv_load Tryz.underlying43 rfl ti43 e16 hl13 hc14) rfl hJ
    trivial) ?_
  refine ac rfl (by
    intro k _nm ρ σm hJ hoff hdep
    have e6 := hdep 0 rfl rfl 6 rfl
    have e7 := hdep 1 rfl rfl 7 rfl
    exact dp_v (v := (pt b18 o19)) wn (rv_ix Tryz.underlying132 ti43 e6 e7 hi17) rfl hJ) ?_
  refine all_cons (by
    refine ⟨?_, ?_⟩
    ·intro _nm ρ σm hJ hoff hdep
     have e18 := hdep 12 rfl rfl 18 rfl
     have e13 := hdep 7 rfl rfl 13 rfl
     obtain ⟨H, m⟩ := id hJ
     refine dp_exS wn rfl (ex_store_own (e' := (x1.1, x1.2)) (vs := [(I x1.1), (I x1.2)]) (k := 0) H (i := 0) rfl ti43 hx16 hi17 e18 rfl e13 rfl rfl (Nat.le_of_ble_eq_true rfl) (by simp [plain]) (by rintro _ ⟨_, _, rfl, rfl, rfl⟩; exact ⟨[(I x1.1)], [(I x1.2)], rfl, rfl, rfl⟩)) ?_
     rintro σq ⟨H2, m2⟩
     exact ⟨_, (), rfl, ⟨H2.sel' [0] rfl rfl, m.comp m2⟩, stab [0, 1, 2, 3, 4, 5, 6, 7, 8, 9, 10, 11, 12] (by kernel_rfl) ⟨rfl, rfl, rfl, rfl, rfl, rfl, rfl, rfl, rfl, rfl, rfl, rfl, rfl, trivial⟩⟩
    trivial) ?_
  exact all_nil
 ·intro _nm ρ σ20 hJ hoff hrel
  have e0 := look_off (N := 20) (hoff 0 rfl) rfl
  have e8 := hrel 2 rfl 8 rfl
  have e9 := hrel 3 rfl 9 rfl
  have e17 := hrel 11 rfl 17 rfl
  obtain ⟨H, -⟩ := (show Hp S0 σ0 σ20 [Ch.own 0 0 (Sl Bb Az Bc) (Az.set Bo.toNat (x1.1, x1.2))] ∧ Md (fun i => (cov []) i ∨ (fun b => blk (Sl Bb Az Bc) = some b) i) σ0 σ20 from hJ)
  clear hJ Hs
  rw [fr_lookL (L := [(0, (Sl Bb Az Bc)), (8, (Sl Bb Az Bc)), (9, (I Bp)), (17, (.agg #[(I x8.1), (I x8.2)]))]) ⟨e0, e8, e9, e17, trivial⟩]
  clear hoff hrel e0 e8 e9 e17
  have hsl : (Sl Bb Az Bc) = (Sl Bb (Az.set Bo.toNat (x1.1, x1.2)) Bc) := sl_len (by simp)
  rw [hsl]; rw [hsl] at H; clear hsl
  revert h; refine br fun x21 hx22 h => ?_
  obtain ⟨b24, o25, hi23, -⟩ := (H.own 0 rfl).ix hx22
  refine st (v := (pt b24 o25)) (rv_ix Tryz.underlying132 ti43 rfl rfl hi23) ?_
  refine st_exS (ex_store_own (e' := (x8.1, x8.2)) (vs := [(I x8.1), (I x8.2)]) (k := 0) H (i := 0) rfl ti43 hx22 hi23 rfl rfl rfl rfl rfl (Nat.le_of_ble_eq_true rfl) (by simp [plain]) (by rintro _ ⟨_, _, rfl, rfl, rfl⟩; exact ⟨[(I x8.1)], [(I x8.2)], rfl, rfl, rfl⟩)) wn ?_
  rintro σ26 ⟨H, -⟩
  have hsl : (Sl Bb (Az.set Bo.toNat (x1.1, x1.2)) Bc) = (Sl Bb ((Az.set Bo.toNat (x1.1, x1.2)).set Bp.toNat (x8.1, x8.2)) Bc) := sl_len List.length_set.symm
  rw [hsl]; rw [hsl] at H; clear hsl
  refine w_end ?_
  obtain rfl := sj h
  exact fin_end (v := (.tuple #[])) (results_ok Tryz.results248 res_nil rfl) ⟨rfl, rfl, (List.length_set.trans List.length_set)⟩ (H.sel' [0] rfl rfl)

theorem c_container_heap_up__impl_hitHeap {Az : List (Int × Int)} {Bq : Int} {Bb : Option Addr} {Bc : Nat} {Bd Be Bf : Nat} {Bg Bh : List Value} {r : (List (Int × Int))} (h : M.container_heap_up__impl_hitHeap Az Bq = some r) :
    Cal2 Tryz.prog 189 [(.iface 155 (pt Be Bf)), (I Bq)] [Ch.bx Bd Be Bf [(Sl Bb Az Bc)] Bg Bh, Ch.own 0 0 (Sl Bb Az Bc) Az] (fun n0 v L => ∃ (az1 : Option Addr), ∃ (cz2 : Nat), v = (.tuple #[]) ∧ L = [Ch.bx Bd Be Bf [(Sl az1 r cz2)] Bg Bh, Ch.own 0 0 (Sl az1 r cz2) r]) := by
 refine cal2 (n := 23) Tryz.func189 rfl rfl rfl rfl ?_
 intro S0 σ0 n0 hn0 H
 unfold M.container_heap_up__impl_hitHeap at h
 obtain ⟨o1, hj, h'⟩ := bind_some h
 clear h
 refine c_cut (fun e a w => e = .normal ∧ ∃ (ρ : Nat → Value) (σ : St) (aj1 : Option Addr) (cj2 : Nat), a = fr 23 (updL ρ [(0, (.iface 155 (pt Be Bf)))]) ∧ w = σ.w ∧ Hp S0 σ0 σ [Ch.bx Bd Be Bf [(Sl aj1 o1 cj2)] Bg Bh, Ch.own 0 0 (Sl aj1 o1 cj2) o1]) ?_ ?_
 ·clear h'
  rename _ = some o1 => h
  refine c_blk (wp_loopM _ h (fun s2 a w => ∃ (ρ : Nat → Value) (σ : St) (aj1 : Option Addr) (cj2 : Nat), a = fr 23 (updL ρ [(0, (.iface 155 (pt Be Bf))), (1, (I s2.2))]) ∧ w = σ.w ∧ Hp S0 σ0 σ [Ch.bx Bd Be Bf [(Sl aj1 s2.1 cj2)] Bg Bh, Ch.own 0 0 (Sl aj1 s2.1 cj2) s2.1]) ⟨_, σ0, Bb, Bc, fr_join ⟨rfl, rfl, trivial⟩, rfl, H.sel' [0, 1] rfl rfl⟩ ?_)
  clear h H
  rintro s2 a w o ⟨ρ, σ3, a4, c5, rfl, rfl, H⟩ h hres
  refine c_blk (c_seq (rg (sm (I s2.2) rfl (st (v := (I (w64 (s2.2 - 1)))) (rv_sub (a := s2.2) (b := 1) rfl rfl) ?_))))
  refine st (v := (I (w64 ((w64 (s2.2 - 1)).tdiv 2)))) (rv_quo (a := (w64 (s2.2 - 1))) (b := 2) rfl rfl (by decide)) ?_
  refine sa (I (w64 ((w64 (s2.2 - 1)).tdiv 2))) rfl (w_end (q_then (c_seq (c_seq ?_))))
  obtain ⟨o6, hj, h'⟩ := bind_some h
  clear h
  refine c_cut (fun e a w => e = .normal ∧ ∃ (ρ : Nat → Value) (σ : St), a = fr 23 (updL ρ [(0, (.iface 155 (pt Be Bf))), (1, (I s2.2)), (4, (I (w64 ((w64 (s2.2 - 1)).tdiv 2)))), (17, (B o6))]) ∧ w = σ.w ∧ Hp S0 σ0 σ [Ch.own 0 0 (Sl a4 s2.1 c5) s2.1, Ch.bx Bd Be Bf [(Sl a4 s2.1 c5)] Bg Bh]) ?_ ?_
  ·clear h'
   rename _ = some o6 => h
   refine rg (sm (I (w64 ((w64 (s2.2 - 1)).tdiv 2))) rfl (sm (I s2.2) rfl (st (v := (B ((w64 ((w64 (s2.2 - 1)).tdiv 2)) == s2.2))) (rv_eql (a := (w64 ((w64 (s2.2 - 1)).tdiv 2))) (b := s2.2) rfl rfl) (sm (B ((w64 ((w64 (s2.2 - 1)).tdiv 2)) == s2.2)) rfl ?_))))
   rcases Bool.eq_false_or_eq_true ((w64 ((w64 (s2.2 - 1)).tdiv 2)) == s2.2) with hb7 | hb7
   ·replace h := bif_t hb7 h
    refine st_skip (congrArg some hb7) (st_skip (congrArg some hb7) (st_skip (congrArg some hb7) (st_skip (congrArg some hb7) (st_skip (congrArg some hb7) (st (v := (B true)) (rv_pick_t (congrArg B hb7) rfl) (w_end ?_))))))
    obtain rfl := sj h
    exact ⟨rfl, _, σ3, fr_join ⟨rfl, rfl, rfl, rfl, trivial⟩, rfl, H.sel' [1, 0] rfl rfl⟩
   ·replace h := bif_f hb7 h
    refine st_g (v := (.iface 155 (pt Be Bf))) (congrArg some hb7) (rv_move rfl) (st_g (v := (I s2.2)) (congrArg some hb7) (rv_move rfl) (st_g (v := (I (w64 ((w64 (s2.2 - 1)).tdiv 2)))) (congrArg some hb7) (rv_move rfl) ?_))
    revert h; refine br fun r8 hx9 h => ?_
    have hc10 := c_impl_hitHeap_Less (Bb := a4) (Bc := c5) hx9
    have hle := Nat.le_trans hn0 H.size
    refine st_call (cx_lend (Loan.lend Loan.nil) hc10 (ent_iv hc10.fn (by kernel_rfl) Tryz.underlying155 Tryz.underlying132 rfl rfl (H.cell (u := (Sl a4 s2.1 c5)) (o' := Bf) 0 0 rfl rfl rfl) rfl) (show Hp S0 σ0 _ ([Ch.own 0 0 (Sl a4 s2.1 c5) s2.1] ++ ([] ++ [Ch.bx Bd Be Bf [(Sl a4 s2.1 c5)] Bg Bh])) from (H.sel' [1, 0] rfl rfl)) (by rintro _ _ _ ⟨rfl, rfl⟩; exact trivial)) (wanted_yes rfl (by exact (congrArg some hb7))) ?_
    rintro _ σ11 ⟨_, ⟨rfl, rfl⟩, H, -, -⟩
    replace H : Hp _ _ _ [_, _] := H
    clear hle
    replace H : Hp _ _ _ [_, _] := H
    refine st_g (v := (B (!r8))) (congrArg some hb7) (rv_not rfl) (st (v := (B (!r8))) (rv_pick_f (congrArg B hb7) rfl) (w_end ?_))
    obtain rfl := sj h
    exact ⟨rfl, _, σ11, fr_join ⟨rfl, rfl, rfl, rfl, trivial⟩, rfl, H.sel' [0, 1] rfl rfl⟩
  ·clear hj
   have h := h'
   clear h' H
   rintro e a w ⟨rfl, ρ, σ12, rfl, rfl, H⟩
   refine q_then ?_
   refine cd_cond o6 rfl (fun hb13 => ?_) (fun hb13 => ?_)
   ·replace h := bif_t hb13 h
    refine c_exit (q_then_x ?_)
    refine q_blk_x (by decide) ?_
    refine q_then_x (q_blk_hit ?_)
    obtain rfl := sj h
    obtain rfl := hres _ rfl
    exact ⟨rfl, _, σ12, a4, c5, fr_join ⟨rfl, trivial⟩, rfl, H.sel' [1, 0] rfl rfl⟩
   ·replace h := bif_f hb13 h
    refine c_skip (q_then (c_seq (rg (sm (.iface 155 (pt Be Bf)) rfl (sm (I (w64 ((w64 (s2.2 - 1)).tdiv 2))) rfl (sm (I s2.2) rfl ?_))))))
    revert h; refine br fun r14 hx15 h => ?_
    have hc16 := c_impl_hitHeap_Swap (Bb := a4) (Bc := c5) hx15
    refine st_call (cx_call hc16 (ent_iv hc16.fn (by kernel_rfl) Tryz.underlying155 Tryz.underlying132 rfl rfl (H.cell (u := (Sl a4 s2.1 c5)) (o' := Bf) 1 0 rfl rfl rfl) rfl) hn0 (H.sel' [0, 1] rfl rfl : Hp S0 σ0 _ ([_] ++ _))) wn ?_
    rintro _ σ18 ⟨_, ⟨rfl, rfl, hn17⟩, H, -⟩
    replace H : Hp _ _ _ [_, _] := H
    have hsl : (Sl a4 s2.1 c5) = (Sl a4 r14 c5) := sl_len hn17.symm
    try rw [hsl]
    try rw [hsl] at H
    clear hsl
    refine w_end (q_then (rg (sm (I (w64 ((w64 (s2.2 - 1)).tdiv 2))) rfl (sa (I (w64 ((w64 (s2.2 - 1)).tdiv 2))) rfl (w_end (q_blk (q_then ?_)))))))
    obtain rfl := sj h
    exact ⟨_, rfl, _, σ18, a4, c5, fr_join ⟨rfl, rfl, trivial⟩, rfl, H.sel' [1, 0] rfl rfl⟩
 ·clear hj
  have h := h'
  clear h' H
  rintro e a w ⟨rfl, ρ, σ19, a20, c21, rfl, rfl, H⟩
  obtain rfl := sj h
  exact fin_end (v := (.tuple #[])) (results_ok Tryz.results189 res_nil rfl) ⟨a20, c21, rfl, rfl⟩ (H.sel' [0, 1] rfl rfl)

theorem c_container_heap_Push__impl_hitHeap__impl_Hit {Az : List (Int × Int)} {Ba : Int × Int} {Bb : Option Addr} {Bc : Nat} {Bd Be Bf : Nat} {Bg Bh : List Value} {r : (List (Int × Int))} (h : M.container_heap_Push__impl_hitHeap__impl_Hit Az Ba = some r) :
    Cal2 Tryz.prog 160 [(.iface 155 (pt Be Bf)), (.iface 43 (.agg #[(I Ba.1), (I Ba.2)]))] [Ch.bx Bd Be Bf [(Sl Bb Az Bc)] Bg Bh, Ch.own 0 0 (Sl Bb Az Bc) Az] (fun n0 v L => ∃ (az1 : Option Addr), ∃ (cz2 : Nat), v = (.tuple #[]) ∧ L = [Ch.bx Bd Be Bf [(Sl az1 r cz2)] Bg Bh, Ch.own 0 0 (Sl az1 r cz2) r]) := by
 refine cal2 (n := 12) Tryz.func160 rfl rfl rfl rfl ?_
 intro S0 σ0 n0 hn0 H
 unfold M.container_heap_Push__impl_hitHeap__impl_Hit at h
 refine c_seq (rg (sm (.iface 155 (pt Be Bf)) rfl (sm (.iface 43 (.agg #[(I Ba.1), (I Ba.2)])) rfl ?_)))
 revert h; refine br fun r1 hx2 h => ?_
 have hc3 := c_impl_hitHeap_Push__impl_Hit (Bd := Bd) (Be := Be) (Bf := Bf) (Bg := Bg) (Bh := Bh) (Bb := Bb) (Bc := Bc) hx2
 refine st_call (cx_call hc3 (ent_ip hc3.fn (by kernel_rfl) Tryz.underlying155 rfl rfl) hn0 (H.sel' [0, 1] rfl rfl : Hp S0 σ0 _ ([_, _] ++ _))) wn ?_
 rintro _ σ6 ⟨_, ⟨a4, c5, rfl, rfl⟩, H, -⟩
 replace H : Hp _ _ _ [_, _] := H
 refine w_end (q_then (rg (sm (.iface 155 (pt Be Bf)) rfl (sm (.iface 155 (pt Be Bf)) rfl ?_))))
 revert h; refine br fun r7 hx8 h => ?_
 have hc9 := c_impl_hitHeap_Len (Bb := a4) (Bc := c5) hx8
 have hle := Nat.le_trans hn0 H.size
 refine st_call (cx_lend (Loan.lend Loan.nil) hc9 (ent_iv hc9.fn (by kernel_rfl) Tryz.underlying155 Tryz.underlying132 rfl rfl (H.cell (u := (Sl a4 r1 c5)) (o' := Bf) 0 0 rfl rfl rfl) rfl) (show Hp S0 σ0 _ ([Ch.own 0 0 (Sl a4 r1 c5) r1] ++ ([] ++ [Ch.bx Bd Be Bf [(Sl a4 r1 c5)] Bg Bh])) from (H.sel' [1, 0] rfl rfl)) (by rintro _ _ _ ⟨rfl, rfl⟩; exact trivial)) wn ?_
 rintro _ σ10 ⟨_, ⟨rfl, rfl⟩, H, -, -⟩
 replace H : Hp _ _ _ [_, _] := H
 clear hle
 replace H : Hp _ _ _ [_, _] := H
 refine st (v := (I (w64 (r7 - 1)))) (rv_sub (a := r7) (b := 1) rfl rfl) ?_
 revert h; refine br fun r11 hx12 h => ?_
 have hc13 := c_container_heap_up__impl_hitHeap (Bd := Bd) (Be := Be) (Bf := Bf) (Bg := Bg) (Bh := Bh) (Bb := a4) (Bc := c5) hx12
 refine st_call (cx_call hc13 (ent_f hc13.fn rfl) hn0 (H.sel' [1, 0] rfl rfl : Hp S0 σ0 _ ([_, _] ++ _))) wn ?_
 rintro _ σ16 ⟨_, ⟨a14, c15, rfl, rfl⟩, H, -⟩
 replace H : Hp _ _ _ [_, _] := H
 refine w_end ?_
 obtain rfl := sj h
 exact fin_end (v := (.tuple #[])) (results_ok Tryz.results160 res_nil rfl) ⟨a14, c15, rfl, rfl⟩ (H.sel' [0, 1] rfl rfl)

theorem c_container_heap_down__impl_hitHeap {Az : List (Int × Int)} {Br : Int} {Bs : Int} {Bb : Option Addr} {Bc : Nat} {Bd Be Bf : Nat} {Bg Bh : List Value} {r : Bool × (List (Int × Int))} (h : M.container_heap_down__impl_hitHeap Az Br Bs = some r) :
    Cal2 Tryz.prog 190 [(.iface 155 (pt Be Bf)), (I Br), (I Bs)] [Ch.bx Bd Be Bf [(Sl Bb Az Bc)] Bg Bh, Ch.own 0 0 (Sl Bb Az Bc) Az] (fun n0 v L => ∃ (az1 : Option Addr), ∃ (cz2 : Nat), v = (B r.1) ∧ L = [Ch.bx Bd Be Bf [(Sl az1 r.2 cz2)] Bg Bh, Ch.own 0 0 (Sl az1 r.2 cz2) r.2]) := by
 refine cal2 (n := 48) Tryz.func190 rfl rfl rfl rfl ?_
 intro S0 σ0 n0 hn0 H
 unfold M.container_heap_down__impl_hitHeap at h
 refine c_seq (rg (sa (B false) rfl (w_end (q_then (c_seq (rg (sm (I Br) rfl (sa (I Br) rfl (w_end (q_then (c_seq ?_)))))))))))
 obtain ⟨o1, hj, h'⟩ := bind_some h
 clear h
 refine c_cut (fun e a w => e = .normal ∧ ∃ (ρ : Nat → Value) (σ : St) (aj1 : Option Addr) (cj2 : Nat), a = fr 48 (updL ρ [(0, (.iface 155 (pt Be Bf))), (1, (I Br)), (7, (I o1.2))]) ∧ w = σ.w ∧ Hp S0 σ0 σ [Ch.bx Bd Be Bf [(Sl aj1 o1.1 cj2)] Bg Bh, Ch.own 0 0 (Sl aj1 o1.1 cj2) o1.1]) ?_ ?_
 ·clear h'
  rename _ = some o1 => h
  refine c_blk (wp_loopM _ h (fun s2 a w => ∃ (ρ : Nat → Value) (σ : St) (aj1 : Option Addr) (cj2 : Nat), a = fr 48 (updL ρ [(0, (.iface 155 (pt Be Bf))), (1, (I Br)), (2, (I Bs)), (7, (I s2.2))]) ∧ w = σ.w ∧ Hp S0 σ0 σ [Ch.bx Bd Be Bf [(Sl aj1 s2.1 cj2)] Bg Bh, Ch.own 0 0 (Sl aj1 s2.1 cj2) s2.1]) ⟨_, σ0, Bb, Bc, fr_join ⟨rfl, rfl, rfl, rfl, trivial⟩, rfl, H.sel' [0, 1] rfl rfl⟩ ?_)
  clear h H
  rintro s2 a w o ⟨ρ, σ3, a4, c5, rfl, rfl, H⟩ h hres
  refine c_blk (c_seq (rg (sm (I s2.2) rfl (st (v := (I (w64 (2 * s2.2)))) (rv_mul (a := 2) (b := s2.2) rfl rfl) (st (v := (I (w64 ((w64 (2 * s2.2)) + 1)))) (rv_add (a := (w64 (2 * s2.2))) (b := 1) rfl rfl) (sa (I (w64 ((w64 (2 * s2.2)) + 1))) rfl (w_end (q_then (c_seq (c_seq ?_))))))))))
  obtain ⟨o6, hj, h'⟩ := bind_some h
  clear h
  refine c_cut (fun e a w => e = .normal ∧ ∃ (ρ : Nat → Value) (σ : St), a = fr 48 (updL ρ [(0, (.iface 155 (pt Be Bf))), (1, (I Br)), (2, (I Bs)), (7, (I s2.2)), (8, (I (w64 ((w64 (2 * s2.2)) + 1)))), (21, (B o6))]) ∧ w = σ.w ∧ Hp S0 σ0 σ [Ch.own 0 0 (Sl a4 s2.1 c5) s2.1, Ch.bx Bd Be Bf [(Sl a4 s2.1 c5)] Bg Bh]) ?_ ?_
  ·clear h'
   rename _ = some o6 => h
   refine rg (sm (I (w64 ((w64 (2 * s2.2)) + 1))) rfl (sm (I Bs) rfl (st (v := (B (decide (Bs ≤ (w64 ((w64 (2 * s2.2)) + 1)))))) (rv_geq (a := (w64 ((w64 (2 * s2.2)) + 1))) (b := Bs) rfl rfl) (sm (B (decide (Bs ≤ (w64 ((w64 (2 * s2.2)) + 1))))) rfl ?_))))
   rcases Bool.eq_false_or_eq_true (decide (Bs ≤ (w64 ((w64 (2 * s2.2)) + 1)))) with hb7 | hb7
   ·replace h := bif_t hb7 h
    refine st_skip (congrArg some hb7) (st_skip (congrArg some hb7) (st (v := (B true)) (rv_pick_t (congrArg B hb7) rfl) (w_end ?_)))
    obtain rfl := sj h
    exact ⟨rfl, _, σ3, fr_join ⟨rfl, rfl, rfl, rfl, rfl, rfl, trivial⟩, rfl, H.sel' [1, 0] rfl rfl⟩
   ·replace h := bif_f hb7 h
    refine st_g (v := (I (w64 ((w64 (2 * s2.2)) + 1)))) (congrArg some hb7) (rv_move rfl) (st_g (v := (B (decide ((w64 ((w64 (2 * s2.2)) + 1)) < 0)))) (congrArg some hb7) (rv_lss (a := (w64 ((w64 (2 * s2.2)) + 1))) (b := 0) rfl rfl) (st (v := (B (decide ((w64 ((w64 (2 * s2.2)) + 1)) < 0)))) (rv_pick_f (congrArg B hb7) rfl) (w_end ?_)))
    obtain rfl := sj h
    exact ⟨rfl, _, σ3, fr_join ⟨rfl, rfl, rfl, rfl, rfl, rfl, trivial⟩, rfl, H.sel' [1, 0] rfl rfl⟩
  ·clear hj
   have h := h'
   clear h' H
   rintro e a w ⟨rfl, ρ, σ8, rfl, rfl, H⟩
   refine q_then ?_
   refine cd_cond o6 rfl (fun hb9 => ?_) (fun hb9 => ?_)
   ·replace h := bif_t hb9 h
    refine c_exit (q_then_x ?_)
    refine q_blk_x (by decide) ?_
    refine q_then_x (q_blk_hit ?_)
    obtain rfl := sj h
    obtain rfl := hres _ rfl
    exact ⟨rfl, _, σ8, a4, c5, fr_join ⟨rfl, rfl, rfl, trivial⟩, rfl, H.sel' [1, 0] rfl rfl⟩
   ·replace h := bif_f hb9 h
    refine c_skip (q_then (c_seq (rg (sm (I (w64 ((w64 (2 * s2.2)) + 1))) rfl (sa (I (w64 ((w64 (2 * s2.2)) + 1))) rfl (w_end (q_then (c_seq (c_seq (rg (sm (I (w64 ((w64 (2 * s2.2)) + 1))) rfl ?_)))))))))))
    refine st (v := (I (w64 ((w64 ((w64 (2 * s2.2)) + 1)) + 1)))) (rv_add (a := (w64 ((w64 (2 * s2.2)) + 1))) (b := 1) rfl rfl) (sa (I (w64 ((w64 ((w64 (2 * s2.2)) + 1)) + 1))) rfl (w_end (q_then (c_seq ?_))))
    obtain ⟨o10, hj, h'⟩ := bind_some h
    clear h
    refine c_cut (fun e a w => e = .normal ∧ ∃ (ρ : Nat → Value) (σ : St), a = fr 48 (updL ρ [(0, (.iface 155 (pt Be Bf))), (1, (I Br)), (2, (I Bs)), (7, (I s2.2)), (9, (I (w64 ((w64 (2 * s2.2)) + 1)))), (10, (I (w64 ((w64 ((w64 (2 * s2.2)) + 1)) + 1)))), (33, (B o10))]) ∧ w = σ.w ∧ Hp S0 σ0 σ [Ch.own 0 0 (Sl a4 s2.1 c5) s2.1, Ch.bx Bd Be Bf [(Sl a4 s2.1 c5)] Bg Bh]) ?_ ?_
    ·clear h'
     rename _ = some o10 => h
     refine rg (sm (I (w64 ((w64 ((w64 (2 * s2.2)) + 1)) + 1))) rfl (sm (I Bs) rfl (st (v := (B (decide ((w64 ((w64 ((w64 (2 * s2.2)) + 1)) + 1)) < Bs)))) (rv_lss (a := (w64 ((w64 ((w64 (2 * s2.2)) + 1)) + 1))) (b := Bs) rfl rfl) (sm (B (decide ((w64 ((w64 ((w64 (2 * s2.2)) + 1)) + 1)) < Bs))) rfl ?_))))
     rcases Bool.eq_false_or_eq_true (decide ((w64 ((w64 ((w64 (2 * s2.2)) + 1)) + 1)) < Bs)) with hb11 | hb11
     ·replace h := bif_t hb11 h
      refine st_g (v := (.iface 155 (pt Be Bf))) (congrArg some hb11) (rv_move rfl) (st_g (v := (I (w64 ((w64 ((w64 (2 * s2.2)) + 1)) + 1)))) (congrArg some hb11) (rv_move rfl) (st_g (v := (I (w64 ((w64 (2 * s2.2)) + 1)))) (congrArg some hb11) (rv_move rfl) ?_))
      revert h; refine br fun r12 hx13 h => ?_
      have hc14 := c_impl_hitHeap_Less (Bb := a4) (Bc := c5) hx13
      have hle := Nat.le_trans hn0 H.size
      refine st_call (cx_lend (Loan.lend Loan.nil) hc14 (ent_iv hc14.fn (by kernel_rfl) Tryz.underlying155 Tryz.underlying132 rfl rfl (H.cell (u := (Sl a4 s2.1 c5)) (o' := Bf) 1 0 rfl rfl rfl) rfl) (show Hp S0 σ0 _ ([Ch.own 0 0 (Sl a4 s2.1 c5) s2.1] ++ ([] ++ [Ch.bx Bd Be Bf [(Sl a4 s2.1 c5)] Bg Bh])) from (H.sel' [0, 1] rfl rfl)) (by rintro _ _ _ ⟨rfl, rfl⟩; exact trivial)) (wanted_yes rfl (by exact (congrArg some hb11))) ?_
      rintro _ σ15 ⟨_, ⟨rfl, rfl⟩, H, -, -⟩
      replace H : Hp _ _ _ [_, _] := H
      clear hle
      replace H : Hp _ _ _ [_, _] := H
      refine st (v := (B r12)) (rv_pick_t (congrArg B hb11) rfl) (w_end ?_)
      obtain rfl := sj h
      exact ⟨rfl, _, σ15, fr_join ⟨rfl, rfl, rfl, rfl, rfl, rfl, rfl, trivial⟩, rfl, H.sel' [0, 1] rfl rfl⟩
     ·replace h := bif_f hb11 h
      refine st_skip (congrArg some hb11) (st_skip (congrArg some hb11) (st_skip (congrArg some hb11) (st_skip (congrArg some hb11) (st (v := (B false)) (rv_pick_f (congrArg B hb11) rfl) (w_end ?_)))))
      obtain rfl := sj h
      exact ⟨rfl, _, σ8, fr_join ⟨rfl, rfl, rfl, rfl, rfl, rfl, rfl, trivial⟩, rfl, H.sel' [0, 1] rfl rfl⟩
    ·clear hj
     have h := h'
     clear h' H
     rintro e a w ⟨rfl, ρ, σ16, rfl, rfl, H⟩
     refine q_then ?_
     obtain ⟨o17, hj, h'⟩ := bind_some h
     clear h
     refine c_cut (fun e a w => e = .normal ∧ ∃ (ρ : Nat → Value) (σ : St), a = fr 48 (updL ρ [(0, (.iface 155 (pt Be Bf))), (1, (I Br)), (2, (I Bs)), (7, (I s2.2)), (9, (I o17))]) ∧ w = σ.w ∧ Hp S0 σ0 σ [Ch.own 0 0 (Sl a4 s2.1 c5) s2.1, Ch.bx Bd Be Bf [(Sl a4 s2.1 c5)] Bg Bh]) ?_ ?_
     ·clear h'
      rename _ = some o17 => h
      refine cd_cond o10 rfl (fun hb18 => ?_) (fun hb18 => ?_)
      ·replace h := bif_t hb18 h
       refine rg (sm (I (w64 ((w64 ((w64 (2 * s2.2)) + 1)) + 1))) rfl (sa (I (w64 ((w64 ((w64 (2 * s2.2)) + 1)) + 1))) rfl (w_end ?_)))
       obtain rfl := sj h
       exact ⟨rfl, _, σ16, fr_join ⟨rfl, rfl, rfl, rfl, rfl, trivial⟩, rfl, H.sel' [0, 1] rfl rfl⟩
      ·replace h := bif_f hb18 h
       refine c_skip ?_
       obtain rfl := sj h
       exact ⟨rfl, _, σ16, fr_join ⟨rfl, rfl, rfl, rfl, rfl, trivial⟩, rfl, H.sel' [0, 1] rfl rfl⟩
     ·clear hj
      have h := h'
      clear h' H
      rintro e a w ⟨rfl, ρ, σ19, rfl, rfl, H⟩
      refine q_then (c_seq (c_seq (rg (sm (.iface 155 (pt Be Bf)) rfl (sm (I o17) rfl (sm (I s2.2) rfl ?_))))))
      revert h; refine br fun r20 hx21 h => ?_
      have hc22 := c_impl_hitHeap_Less (Bb := a4) (Bc := c5) hx21
      have hle := Nat.le_trans hn0 H.size
      refine st_call (cx_lend (Loan.lend Loan.nil) hc22 (ent_iv hc22.fn (by kernel_rfl) Tryz.underlying155 Tryz.underlying132 rfl rfl (H.cell (u := (Sl a4 s2.1 c5)) (o' := Bf) 1 0 rfl rfl rfl) rfl) (show Hp S0 σ0 _ ([Ch.own 0 0 (Sl a4 s2.1 c5) s2.1] ++ ([] ++ [Ch.bx Bd Be Bf [(Sl a4 s2.1 c5)] Bg Bh])) from (H.sel' [0, 1] rfl rfl)) (by rintro _ _ _ ⟨rfl, rfl⟩; exact trivial)) wn ?_
      rintro _ σ23 ⟨_, ⟨rfl, rfl⟩, H, -, -⟩
      replace H : Hp _ _ _ [_, _] := H
      clear hle
      replace H : Hp _ _ _ [_, _] := H
      refine st (v := (B (!r20))) (rv_not rfl) (w_end (q_then ?_))
      refine cd_cond (!r20) rfl (fun hb24 => ?_) (fun hb24 => ?_)
      ·replace h := bif_t hb24 h
       refine c_exit (q_then_x ?_)
       refine q_blk_x (by decide) ?_
       refine q_then_x (q_blk_hit ?_)
       obtain rfl := sj h
       obtain rfl := hres _ rfl
       exact ⟨rfl, _, σ23, a4, c5, fr_join ⟨rfl, rfl, rfl, trivial⟩, rfl, H.sel' [1, 0] rfl rfl⟩
      ·replace h := bif_f hb24 h
       refine c_skip (q_then (c_seq (rg (sm (.iface 155 (pt Be Bf)) rfl (sm (I s2.2) rfl (sm (I o17) rfl ?_))))))
       revert h; refine br fun r25 hx26 h => ?_
       have hc27 := c_impl_hitHeap_Swap (Bb := a4) (Bc := c5) hx26
       refine st_call (cx_call hc27 (ent_iv hc27.fn (by kernel_rfl) Tryz.underlying155 Tryz.underlying132 rfl rfl (H.cell (u := (Sl a4 s2.1 c5)) (o' := Bf) 1 0 rfl rfl rfl) rfl) hn0 (H.sel' [0, 1] rfl rfl : Hp S0 σ0 _ ([_] ++ _))) wn ?_
       rintro _ σ29 ⟨_, ⟨rfl, rfl, hn28⟩, H, -⟩
       replace H : Hp _ _ _ [_, _] := H
       have hsl : (Sl a4 s2.1 c5) = (Sl a4 r25 c5) := sl_len hn28.symm
       try rw [hsl]
       try rw [hsl] at H
       clear hsl
       refine w_end (q_then (rg (sm (I o17) rfl (sa (I o17) rfl (w_end (q_blk (q_then ?_)))))))
       obtain rfl := sj h
       exact ⟨_, rfl, _, σ29, a4, c5, fr_join ⟨rfl, rfl, rfl, rfl, trivial⟩, rfl, H.sel' [1, 0] rfl rfl⟩
 ·clear hj
  have h := h'
  clear h' H
  rintro e a w ⟨rfl, ρ, σ30, a31, c32, rfl, rfl, H⟩
  refine q_then (c_seq (rg (sm (I o1.2) rfl (sm (I Br) rfl (st (v := (B (decide (Br < o1.2)))) (rv_gtr (a := o1.2) (b := Br) rfl rfl) (sa (B (decide (Br < o1.2))) rfl (w_end (q_then (c_ret ?_)))))))))
  obtain rfl := sj h
  exact fin_ret (v := (B (decide (Br < o1.2)))) (results_ok Tryz.results190 (res_tmp (v := (B (decide (Br < o1.2)))) rfl res_nil) rfl) ⟨a31, c32, rfl, rfl⟩ (H.sel' [0, 1] rfl rfl)

theorem c_impl_hitHeap_Pop {Az : List (Int × Int)} {Bb : Option Addr} {Bc : Nat} {Bd Be Bf : Nat} {Bg Bh : List Value} {r : ((Int) × (Int)) × (List (Int × Int))} (h : M.impl_hitHeap_Pop Az = some r) :
    Cal2 Tryz.prog 250 [(pt Be Bf)] [Ch.bx Bd Be Bf [(Sl Bb Az Bc)] Bg Bh, Ch.own 0 0 (Sl Bb Az Bc) Az] (fun n0 v L => ∃ (az1 : Option Addr), ∃ (cz2 : Nat), v = (.iface 43 (.agg #[(I r.1.1), (I r.1.2)])) ∧ L = [Ch.bx Bd Be Bf [(Sl az1 r.2 cz2)] Bg Bh, Ch.own 0 0 (Sl az1 r.2 cz2) r.2]) := by
 refine cal2 (n := 25) Tryz.func250 rfl rfl rfl rfl ?_
 intro S0 σ0 n0 hn0 H
 unfold M.impl_hitHeap_Pop at h
 refine c_seq (rg (sa (.nilIface) rfl (w_end (q_then (c_seq (rg (sm (pt Be Bf) rfl (st (v := (pt Be Bf)) (rv_nilCheck rfl) ?_))))))))
 have hc1 := H.cell (u := (Sl Bb Az Bc)) (o' := Bf) 0 0 rfl rfl rfl
 refine st (v := (Sl Bb Az Bc)) (rv_load1 Tryz.underlying132 rfl rfl hc1) (st (v := (I (Az.length : Int))) (rv_len Tryz.underlying132 rfl) (st (v := (I (w64 ((Az.length : Int) - 1)))) (rv_sub (a := (Az.length : Int)) (b := 1) rfl rfl) (sa (I (w64 ((Az.length : Int) - 1))) rfl (w_end (q_then (c_seq (rg (sm (pt Be Bf) rfl (st (v := (pt Be Bf)) (rv_nilCheck rfl) ?_)))))))))
 have hc2 := H.cell (u := (Sl Bb Az Bc)) (o' := Bf) 0 0 rfl rfl rfl
 refine st (v := (Sl Bb Az Bc)) (rv_load1 Tryz.underlying132 rfl rfl hc2) (sm (I (w64 ((Az.length : Int) - 1))) rfl ?_)
 revert h; refine br fun x3 hx4 h => ?_
 obtain ⟨b6, o7, hi5, -⟩ := (H.own 1 rfl).ix hx4
 refine st (v := (pt b6 o7)) (rv_ix Tryz.underlying132 ti43 rfl rfl hi5) ?_
 obtain ⟨_, ⟨_, _, rfl, rfl, rfl⟩, hl8, hc9⟩ := ((H.own 1 rfl).at hx4 hi5).cells
 refine st (v := (.agg #[(I x3.1), (I x3.2)])) (rv_load Tryz.underlying43 rfl ti43 rfl hl8 hc9) (st_ex (ex_alloc (cs := [(I 0), (I 0)]) H hn0 ti43 rfl) wn ?_)
 rintro _ σ11 ⟨b10, rfl, H, -⟩
 refine st_exS (ex_store_box (k := 0) (cs := [(I 0), (I 0)]) (vs := [(I x3.1), (I x3.2)]) (cs' := [(I x3.1), (I x3.2)]) H (i := 0) rfl ti43 rfl rfl rfl rfl rfl (Nat.le_of_ble_eq_true rfl) (by simp [plain]) rfl) wn ?_
 rintro σ12 ⟨H, -⟩
 refine w_end (q_then (c_seq (rg (sm (pt Be Bf) rfl (sm (pt Be Bf) rfl (st (v := (pt Be Bf)) (rv_nilCheck rfl) ?_))))))
 have hc13 := H.cell (u := (Sl Bb Az Bc)) (o' := Bf) 1 0 rfl rfl rfl
 refine st (v := (Sl Bb Az Bc)) (rv_load1 Tryz.underlying132 rfl rfl hc13) (sm (I (w64 ((Az.length : Int) - 1))) rfl ?_)
 revert h; refine br fun xs14 hx15 h => ?_
 obtain ⟨a16, c17, hs18, -⟩ := (H.own 2 rfl).slice hx15
 refine st (v := (Sl a16 xs14 c17)) (rv_slice_h Tryz.underlying132 ti43 hs18 rfl rfl) (st (v := (pt Be Bf)) (rv_nilCheck rfl) ?_)
 have hv20 := (H.own 2 rfl).view hx15 hs18
 replace H := (H.front (i := 2) rfl).turn (d := Ch.own 0 0 (Sl a16 xs14 c17) xs14) (fun _ => hv20.1) hv20.2; clear hv20
 refine st_exS (ex_store_box (k := 0) (cs := [(Sl Bb Az Bc)]) (vs := [(Sl a16 xs14 c17)]) (cs' := [(Sl a16 xs14 c17)]) H (i := 2) rfl ti132 rfl rfl rfl rfl rfl (Nat.le_of_ble_eq_true rfl) (by simp [plain]) rfl) wn ?_
 rintro σ21 ⟨H, -⟩
 refine w_end (q_then (c_seq (rg ?_)))
 have hc22 := H.cells 2 rfl
 refine st (v := (.agg #[(I x3.1), (I x3.2)])) (rv_load (cs := [(I x3.1), (I x3.2)]) Tryz.underlying43 rfl ti43 rfl rfl hc22) (st (v := (.iface 43 (.agg #[(I x3.1), (I x3.2)]))) (rv_makeInterface Tryz.underlying43 rfl rfl) (sa (.iface 43 (.agg #[(I x3.1), (I x3.2)])) rfl (w_end (q_then (c_ret ?_)))))
 obtain rfl := sj h
 exact fin_ret (v := (.iface 43 (.agg #[(I x3.1), (I x3.2)]))) (results_ok Tryz.results250 (res_tmp (v := (.iface 43 (.agg #[(I x3.1), (I x3.2)]))) rfl res_nil) rfl) ⟨a16, c17, rfl, rfl⟩ (H.sel' [0, 1] rfl rfl)

theorem c_container_heap_Pop__impl_hitHeap {Az : List (Int × Int)} {Bb : Option Addr} {Bc : Nat} {Bd Be Bf : Nat} {Bg Bh : List Value} {r : ((Int) × (Int)) × (List (Int × Int))} (h : M.container_heap_Pop__impl_hitHeap Az = some r) :
    Cal2 Tryz.prog 161 [(.iface 155 (pt Be Bf))] [Ch.bx Bd Be Bf [(Sl Bb Az Bc)] Bg Bh, Ch.own 0 0 (Sl Bb Az Bc) Az] (fun n0 v L => ∃ (az1 : Option Addr), ∃ (cz2 : Nat), v = (.iface 43 (.agg #[(I r.1.1), (I r.1.2)])) ∧ L = [Ch.bx Bd Be Bf [(Sl az1 r.2 cz2)] Bg Bh, Ch.own 0 0 (Sl az1 r.2 cz2) r.2]) := by
 refine cal2 (n := 15) Tryz.func161 rfl rfl rfl rfl ?_
 intro S0 σ0 n0 hn0 H
 unfold M.container_heap_Pop__impl_hitHeap at h
 refine c_seq (rg (sa (.nilIface) rfl (w_end (q_then (c_seq (rg (sm (.iface 155 (pt Be Bf)) rfl ?_)))))))
 revert h; refine br fun r1 hx2 h => ?_
 have hc3 := c_impl_hitHeap_Len (Bb := Bb) (Bc := Bc) hx2
 have hle := Nat.le_trans hn0 H.size
 refine st_call (cx_lend (Loan.lend Loan.nil) hc3 (ent_iv hc3.fn (by kernel_rfl) Tryz.underlying155 Tryz.underlying132 rfl rfl (H.cell (u := (Sl Bb Az Bc)) (o' := Bf) 0 0 rfl rfl rfl) rfl) (show Hp S0 σ0 _ ([Ch.own 0 0 (Sl Bb Az Bc) Az] ++ ([] ++ [Ch.bx Bd Be Bf [(Sl Bb Az Bc)] Bg Bh])) from (H.sel' [1, 0] rfl rfl)) (by rintro _ _ _ ⟨rfl, rfl⟩; exact trivial)) wn ?_
 rintro _ σ4 ⟨_, ⟨rfl, rfl⟩, H, -, -⟩
 replace H : Hp _ _ _ [_, _] := H
 clear hle
 replace H : Hp _ _ _ [_, _] := H
 refine st (v := (I (w64 (r1 - 1)))) (rv_sub (a := r1) (b := 1) rfl rfl) (sa (I (w64 (r1 - 1))) rfl (w_end (q_then (c_seq (rg (sm (.iface 155 (pt Be Bf)) rfl (sm (I (w64 (r1 - 1))) rfl ?_)))))))
 revert h; refine br fun r5 hx6 h => ?_
 have hc7 := c_impl_hitHeap_Swap (Bb := Bb) (Bc := Bc) hx6
 refine st_call (cx_call hc7 (ent_iv hc7.fn (by kernel_rfl) Tryz.underlying155 Tryz.underlying132 rfl rfl (H.cell (u := (Sl Bb Az Bc)) (o' := Bf) 1 0 rfl rfl rfl) rfl) hn0 (H.sel' [0, 1] rfl rfl : Hp S0 σ0 _ ([_] ++ _))) wn ?_
 rintro _ σ9 ⟨_, ⟨rfl, rfl, hn8⟩, H, -⟩
 replace H : Hp _ _ _ [_, _] := H
 have hsl : (Sl Bb Az Bc) = (Sl Bb r5 Bc) := sl_len hn8.symm
 try rw [hsl]
 try rw [hsl] at H
 clear hsl
 refine w_end (q_then (c_seq (rg (sm (.iface 155 (pt Be Bf)) rfl (sm (I (w64 (r1 - 1))) rfl ?_)))))
 revert h; refine br fun r10 hx11 h => ?_
 have hc12 := c_container_heap_down__impl_hitHeap (Bd := Bd) (Be := Be) (Bf := Bf) (Bg := Bg) (Bh := Bh) (Bb := Bb) (Bc := Bc) hx11
 refine st_call (cx_call hc12 (ent_f hc12.fn rfl) hn0 (H.sel' [1, 0] rfl rfl : Hp S0 σ0 _ ([_, _] ++ _))) wn ?_
 rintro _ σ15 ⟨_, ⟨a13, c14, rfl, rfl⟩, H, -⟩
 replace H : Hp _ _ _ [_, _] := H
 refine w_end (q_then (c_seq (rg (sm (.iface 155 (pt Be Bf)) rfl ?_))))
 revert h; refine br fun r16 hx17 h => ?_
 have hc18 := c_impl_hitHeap_Pop (Bd := Bd) (Be := Be) (Bf := Bf) (Bg := Bg) (Bh := Bh) (Bb := a13) (Bc := c14) hx17
 refine st_call (cx_call hc18 (ent_ip hc18.fn (by kernel_rfl) Tryz.underlying155 rfl rfl) hn0 (H.sel' [0, 1] rfl rfl : Hp S0 σ0 _ ([_, _] ++ _))) wn ?_
 rintro _ σ21 ⟨_, ⟨a19, c20, rfl, rfl⟩, H, -⟩
 replace H : Hp _ _ _ [_, _] := H
 refine sa (.iface 43 (.agg #[(I r16.1.1), (I r16.1.2)])) rfl (w_end (q_then (c_ret ?_)))
 obtain rfl := sj h
 exact fin_ret (v := (.iface 43 (.agg #[(I r16.1.1), (I r16.1.2)]))) (results_ok Tryz.results161 (res_tmp (v := (.iface 43 (.agg #[(I r16.1.1), (I r16.1.2)]))) rfl res_nil) rfl) ⟨a19, c20, rfl, rfl⟩ (H.sel' [0, 1] rfl rfl)

theorem c_impl_nearestHits_offer {Bt : Int × (List (Int × Int))} {Bu : Int × Int} {Bv : Option Addr} {Bw : Nat} {By Bz Ca : Nat} {Cb Cc : List Value} {r : (Int × (List (Int × Int)))} (h : M.impl_nearestHits_offer Bt Bu = some r) :
    Cal2 Tryz.prog 119 [(pt Bz Ca), (.agg #[(I Bu.1), (I Bu.2)])] [Ch.bx By Bz Ca [(I Bt.1), (Sl Bv Bt.2 Bw)] Cb Cc, Ch.own 0 0 (Sl Bv Bt.2 Bw) Bt.2] (fun n0 v L => ∃ (az1 : Option Addr), ∃ (cz2 : Nat), v = (.tuple #[]) ∧ L = [Ch.bx By Bz Ca [(I r.1), (Sl az1 r.2 cz2)] Cb Cc, Ch.own 0 0 (Sl az1 r.2 cz2) r.2]) := by
 refine cal2 (n := 26) Tryz.func119 rfl rfl rfl rfl ?_
 intro S0 σ0 n0 hn0 H
 unfold M.impl_nearestHits_offer at h
 refine c_seq (rg (st_ex (ex_box (cs := [(I Bu.1), (I Bu.2)]) H hn0 rfl rfl) wn ?_))
 rintro _ σ2 ⟨b1, rfl, H, -⟩
 refine w_end (q_then (c_seq ?_))
 refine rgP (σ := σ2) 6 (by kernel_rfl) (by kernel_rfl) (by kernel_rfl) ?_
 refine sq (v := (pt Bz Ca)) (rv_move rfl) (sq (v := (pt Bz Ca)) (rv_nilCheck rfl) (sq (v := (pt Bz (Ca + 1))) (rv_fieldAddr (off := 1) (ft := 132) Tryz.underlying134 rfl ti132 rfl rfl) (sq (v := (.iface 155 (pt Bz (Ca + 1)))) (rv_makeInterface Tryz.underlying155 rfl rfl) ?_)))
 have hc3 := H.cells 0 rfl
 refine sq (v := (.agg #[(I Bu.1), (I Bu.2)])) (rv_load (cs := [(I Bu.1), (I Bu.2)]) Tryz.underlying43 rfl ti43 rfl rfl hc3) (sq (v := (.iface 43 (.agg #[(I Bu.1), (I Bu.2)]))) (rv_makeInterface Tryz.underlying43 rfl rfl) (sq_end ?_))
 intro σ4 hm5
 replace H := H.grow (hm5.mono fun _ h => h); clear hm5
 replace H := Hp.focus (c1 := [(I Bt.1)]) (c2 := [(Sl Bv Bt.2 Bw)]) (c3 := []) (o' := (Ca + 1)) H 1 rfl rfl
 revert h; refine br fun r6 hx7 h => ?_
 have hc8 := c_container_heap_Push__impl_hitHeap__impl_Hit (Bd := By) (Be := Bz) (Bf := (Ca + 1)) (Bg := (Cb ++ [(I Bt.1)])) (Bh := ([] ++ Cc)) (Bb := Bv) (Bc := Bw) hx7
 refine st_call (cx_call hc8 (ent_f hc8.fn rfl) hn0 (H.sel' [0, 2, 1] rfl rfl : Hp S0 σ0 _ ([_, _] ++ _))) wn ?_
 rintro _ σ11 ⟨_, ⟨a9, c10, rfl, rfl⟩, H, -⟩
 replace H : Hp _ _ _ [_, _, _] := H
 replace H : Hp S0 σ0 σ11 [Ch.bx By Bz Ca [(I Bt.1), (Sl a9 r6 c10)] Cb Cc, Ch.own 0 0 (Sl a9 r6 c10) r6, Ch.bx n0 b1 0 [(I Bu.1), (I Bu.2)] [] []] := Hp.unfocus (o := Ca) (c1 := [(I Bt.1)]) (c2 := [(Sl a9 r6 c10)]) (c3 := []) (pre := Cb) (suf := Cc) H 0 rfl rfl
 refine w_end (q_then (c_seq ?_))
 refine rgP (σ := σ11) 9 (by kernel_rfl) (by kernel_rfl) (by kernel_rfl) ?_
 refine sq (v := (pt Bz Ca)) (rv_move rfl) (sq (v := (pt Bz Ca)) (rv_nilCheck rfl) (sq (v := (pt Bz (Ca + 1))) (rv_fieldAddr (off := 1) (ft := 132) Tryz.underlying134 rfl ti132 rfl rfl) ?_))
 have hc12 := H.cell (u := (Sl a9 r6 c10)) (o' := (Ca + 1)) 0 1 rfl rfl rfl
 refine sq (v := (Sl a9 r6 c10)) (rv_load1 Tryz.underlying132 rfl rfl hc12) (sq (v := (I (r6.length : Int))) (rv_len Tryz.underlying132 rfl) (sq (v := (pt Bz Ca)) (rv_move rfl) (sq (v := (pt Bz Ca)) (rv_nilCheck rfl) (sq (v := (pt Bz Ca)) (rv_fieldAddr (off := 0) (ft := 3) Tryz.underlying134 rfl ti3 rfl rfl) ?_))))
 have hc13 := H.cell (u := (I Bt.1)) (o' := Ca) 0 0 rfl rfl rfl
 refine sq (v := (I Bt.1)) (rv_load1 Tryz.underlying3 rfl rfl hc13) (sq_end ?_)
 intro σ14 hm15
 replace H := H.grow (hm15.mono fun _ h => h); clear hm15
 refine st (v := (B (decide (Bt.1 < (r6.length : Int))))) (rv_gtr (a := (r6.length : Int)) (b := Bt.1) rfl rfl) (w_end (q_then ?_))
 refine cd_cond (decide (Bt.1 < (r6.length : Int))) rfl (fun hb16 => ?_) (fun hb16 => ?_)
 ·replace h := bif_t hb16 h
  refine rg (sm (pt Bz Ca) rfl (st (v := (pt Bz Ca)) (rv_nilCheck rfl) (st (v := (pt Bz (Ca + 1))) (rv_fieldAddr (off := 1) (ft := 132) Tryz.underlying134 rfl ti132 rfl rfl) (st (v := (.iface 155 (pt Bz (Ca + 1)))) (rv_makeInterface Tryz.underlying155 rfl rfl) ?_))))
  replace H := Hp.focus (c1 := [(I Bt.1)]) (c2 := [(Sl a9 r6 c10)]) (c3 := []) (o' := (Ca + 1)) H 0 rfl rfl
  revert h; refine br fun r17 hx18 h => ?_
  have hc19 := c_container_heap_Pop__impl_hitHeap (Bd := By) (Be := Bz) (Bf := (Ca + 1)) (Bg := (Cb ++ [(I Bt.1)])) (Bh := ([] ++ Cc)) (Bb := a9) (Bc := c10) hx18
  refine st_call (cx_call hc19 (ent_f hc19.fn rfl) hn0 (H.sel' [0, 1, 2] rfl rfl : Hp S0 σ0 _ ([_, _] ++ _))) wn ?_
  rintro _ σ22 ⟨_, ⟨a20, c21, rfl, rfl⟩, H, -⟩
  replace H : Hp _ _ _ [_, _, _] := H
  replace H : Hp S0 σ0 σ22 [Ch.bx By Bz Ca [(I Bt.1), (Sl a20 r17.2 c21)] Cb Cc, Ch.own 0 0 (Sl a20 r17.2 c21) r17.2, Ch.bx n0 b1 0 [(I Bu.1), (I Bu.2)] [] []] := Hp.unfocus (o := Ca) (c1 := [(I Bt.1)]) (c2 := [(Sl a20 r17.2 c21)]) (c3 := []) (pre := Cb) (suf := Cc) H 0 rfl rfl
  refine w_end ?_
  obtain rfl := sj h
  exact fin_end (v := (.tuple #[])) (results_ok Tryz.results119 res_nil rfl) ⟨a20, c21, rfl, rfl⟩ (H.sel' [0, 1] rfl rfl)
 ·replace h := bif_f hb16 h
  refine c_skip ?_
  obtain rfl := sj h
  exact fin_end (v := (.tuple #[])) (results_ok Tryz.results119 res_nil rfl) ⟨a9, c10, rfl, rfl⟩ (H.sel' [0, 1] rfl rfl)

theorem c_slices_xorshift_Next {Cd : Int} {Ce Cf Cg : Nat} {Ci Cj : List Value} {r : Int × Int} (h : M.slices_xorshift_Next Cd = some r) :
    Cal2 Tryz.prog 199 [(pt Cf Cg)] [Ch.bx Ce Cf Cg [(.int .u64 Cd)] Ci Cj] (fun n0 v L => v = (.int .u64 r.1) ∧ L = [Ch.bx Ce Cf Cg [(.int .u64 r.2)] Ci Cj]) := by
 refine cal2 (n := 33) Tryz.func199 rfl rfl rfl rfl ?_
 intro S0 σ0 n0 hn0 H
 unfold M.slices_xorshift_Next at h
 refine c_seq (rg (sa (.int .u64 0) rfl (w_end (q_then (c_seq ?_)))))
 refine rgP (σ := σ0) 7 (by kernel_rfl) (by kernel_rfl) (by kernel_rfl) ?_
 refine sq (v := (pt Cf Cg)) (rv_move rfl) (sq (v := (pt Cf Cg)) (rv_nilCheck rfl) ?_)
 have hc1 := H.cell (u := (.int .u64 Cd)) (o' := Cg) 0 0 rfl rfl rfl
 refine sq (v := (.int .u64 Cd)) (rv_load1 Tryz.underlying190 rfl rfl hc1) (sq (v := (pt Cf Cg)) (rv_move rfl) (sq (v := (pt Cf Cg)) (rv_nilCheck rfl) ?_))
 have hc2 := H.cell (u := (.int .u64 Cd)) (o' := Cg) 0 0 rfl rfl rfl
 refine sq (v := (.int .u64 Cd)) (rv_load1 Tryz.underlying190 rfl rfl hc2) ?_
 refine sq (v := (.int .u64 (gshl .u64 Cd 13))) (rvk_shl (k := .u64) (k' := .u64) (a := Cd) (b := 13) rfl rfl (by decide)) ?_
 refine sq_end ?_
 intro σ3 hm4
 replace H := H.grow (hm4.mono fun _ h => h); clear hm4
 refine st (v := (.int .u64 (gxork .u64 Cd (gshl .u64 Cd 13)))) (rvk_xor (k := .u64) (a := Cd) (b := (gshl .u64 Cd 13)) rfl rfl) (st (v := (pt Cf Cg)) (rv_nilCheck rfl) ?_)
 refine st_exS (ex_store_box (k := 0) (cs := [(.int .u64 Cd)]) (vs := [(.int .u64 (gxork .u64 Cd (gshl .u64 Cd 13)))]) (cs' := [(.int .u64 (gxork .u64 Cd (gshl .u64 Cd 13)))]) H (i := 0) rfl ti190 rfl rfl rfl rfl rfl (Nat.le_of_ble_eq_true rfl) (by simp [plain]) rfl) wn ?_
 rintro σ5 ⟨H, -⟩
 refine w_end (q_then (c_seq ?_))
 refine rgP (σ := σ5) 7 (by kernel_rfl) (by kernel_rfl) (by kernel_rfl) ?_
 refine sq (v := (pt Cf Cg)) (rv_move rfl) (sq (v := (pt Cf Cg)) (rv_nilCheck rfl) ?_)
 have hc6 := H.cell (u := (.int .u64 (gxork .u64 Cd (gshl .u64 Cd 13)))) (o' := Cg) 0 0 rfl rfl rfl
 refine sq (v := (.int .u64 (gxork .u64 Cd (gshl .u64 Cd 13)))) (rv_load1 Tryz.underlying190 rfl rfl hc6) (sq (v := (pt Cf Cg)) (rv_move rfl) (sq (v := (pt Cf Cg)) (rv_nilCheck rfl) ?_))
 have hc7 := H.cell (u := (.int .u64 (gxork .u64 Cd (gshl .u64 Cd 13)))) (o' := Cg) 0 0 rfl rfl rfl
 refine sq (v := (.int .u64 (gxork .u64 Cd (gshl .u64 Cd 13)))) (rv_load1 Tryz.underlying190 rfl rfl hc7) ?_
 refine sq (v := (.int .u64 (gshr .u64 (gxork .u64 Cd (gshl .u64 Cd 13)) 7))) (rvk_shr (k := .u64) (k' := .u64) (a := (gxork .u64 Cd (gshl .u64 Cd 13))) (b := 7) rfl rfl (by decide)) ?_
 refine sq_end ?_
 intro σ8 hm9
 replace H := H.grow (hm9.mono fun _ h => h); clear hm9
 refine st (v := (.int .u64 (gxork .u64 (gxork .u64 Cd (gshl .u64 Cd 13)) (gshr .u64 (gxork .u64 Cd (gshl .u64 Cd 13)) 7)))) (rvk_xor (k := .u64) (a := (gxork .u64 Cd (gshl .u64 Cd 13))) (b := (gshr .u64 (gxork .u64 Cd (gshl .u64 Cd 13)) 7)) rfl rfl) (st (v := (pt Cf Cg)) (rv_nilCheck rfl) ?_)
 refine st_exS (ex_store_box (k := 0) (cs := [(.int .u64 (gxork .u64 Cd (gshl .u64 Cd 13)))]) (vs := [(.int .u64 (gxork .u64 (gxork .u64 Cd (gshl .u64 Cd 13)) (gshr .u64 (gxork .u64 Cd (gshl .u64 Cd 13)) 7)))]) (cs' := [(.int .u64 (gxork .u64 (gxork .u64 Cd (gshl .u64 Cd 13)) (gshr .u64 (gxork .u64 Cd (gshl .u64 Cd 13)) 7)))]) H (i := 0) rfl ti190 rfl rfl rfl rfl rfl (Nat.le_of_ble_eq_true rfl) (by simp [plain]) rfl) wn ?_
 rintro σ10 ⟨H, -⟩
 refine w_end (q_then (c_seq ?_))
 refine rgP (σ := σ10) 7 (by kernel_rfl) (by kernel_rfl) (by kernel_rfl) ?_
 refine sq (v := (pt Cf Cg)) (rv_move rfl) (sq (v := (pt Cf Cg)) (rv_nilCheck rfl) ?_)
 have hc11 := H.cell (u := (.int .u64 (gxork .u64 (gxork .u64 Cd (gshl .u64 Cd 13)) (gshr .u64 (gxork .u64 Cd (gshl .u64 Cd 13)) 7)))) (o' := Cg) 0 0 rfl rfl rfl
 refine sq (v := (.int .u64 (gxork .u64 (gxork .u64 Cd (gshl .u64 Cd 13)) (gshr .u64 (gxork .u64 Cd (gshl .u64 Cd 13)) 7)))) (rv_load1 Tryz.underlying190 rfl rfl hc11) (sq (v := (pt Cf Cg)) (rv_move rfl) (sq (v := (pt Cf Cg)) (rv_nilCheck rfl) ?_))
 have hc12 := H.cell (u := (.int .u64 (gxork .u64 (gxork .u64 Cd (gshl .u64 Cd 13)) (gshr .u64 (gxork .u64 Cd (gshl .u64 Cd 13)) 7)))) (o' := Cg) 0 0 rfl rfl rfl
 refine sq (v := (.int .u64 (gxork .u64 (gxork .u64 Cd (gshl .u64 Cd 13)) (gshr .u64 (gxork .u64 Cd (gshl .u64 Cd 13)) 7)))) (rv_load1 Tryz.underlying190 rfl rfl hc12) ?_
 refine sq (v := (.int .u64 (gshl .u64 (gxork .u64 (gxork .u64 Cd (gshl .u64 Cd 13)) (gshr .u64 (gxork .u64 Cd (gshl .u64 Cd 13)) 7)) 17))) (rvk_shl (k := .u64) (k' := .u64) (a := (gxork .u64 (gxork .u64 Cd (gshl .u64 Cd 13)) (gshr .u64 (gxork .u64 Cd (gshl .u64 Cd 13)) 7))) (b := 17) rfl rfl (by decide)) ?_
 refine sq_end ?_
 intro σ13 hm14
 replace H := H.grow (hm14.mono fun _ h => h); clear hm14
 refine st (v := (.int .u64 (gxork .u64 (gxork .u64 (gxork .u64 Cd (gshl .u64 Cd 13)) (gshr .u64 (gxork .u64 Cd (gshl .u64 Cd 13)) 7)) (gshl .u64 (gxork .u64 (gxork .u64 Cd (gshl .u64 Cd 13)) (gshr .u64 (gxork .u64 Cd (gshl .u64 Cd 13)) 7)) 17)))) (rvk_xor (k := .u64) (a := (gxork .u64 (gxork .u64 Cd (gshl .u64 Cd 13)) (gshr .u64 (gxork .u64 Cd (gshl .u64 Cd 13)) 7))) (b := (gshl .u64 (gxork .u64 (gxork .u64 Cd (gshl .u64 Cd 13)) (gshr .u64 (gxork .u64 Cd (gshl .u64 Cd 13)) 7)) 17)) rfl rfl) (st (v := (pt Cf Cg)) (rv_nilCheck rfl) ?_)
 refine st_exS (ex_store_box (k := 0) (cs := [(.int .u64 (gxork .u64 (gxork .u64 Cd (gshl .u64 Cd 13)) (gshr .u64 (gxork .u64 Cd (gshl .u64 Cd 13)) 7)))]) (vs := [(.int .u64 (gxork .u64 (gxork .u64 (gxork .u64 Cd (gshl .u64 Cd 13)) (gshr .u64 (gxork .u64 Cd (gshl .u64 Cd 13)) 7)) (gshl .u64 (gxork .u64 (gxork .u64 Cd (gshl .u64 Cd 13)) (gshr .u64 (gxork .u64 Cd (gshl .u64 Cd 13)) 7)) 17)))]) (cs' := [(.int .u64 (gxork .u64 (gxork .u64 (gxork .u64 Cd (gshl .u64 Cd 13)) (gshr .u64 (gxork .u64 Cd (gshl .u64 Cd 13)) 7)) (gshl .u64 (gxork .u64 (gxork .u64 Cd (gshl .u64 Cd 13)) (gshr .u64 (gxork .u64 Cd (gshl .u64 Cd 13)) 7)) 17)))]) H (i := 0) rfl ti190 rfl rfl rfl rfl rfl (Nat.le_of_ble_eq_true rfl) (by simp [plain]) rfl) wn ?_
 rintro σ15 ⟨H, -⟩
 refine w_end (q_then (c_seq (rg (sm (pt Cf Cg) rfl (st (v := (pt Cf Cg)) (rv_nilCheck rfl) ?_)))))
 have hc16 := H.cell (u := (.int .u64 (gxork .u64 (gxork .u64 (gxork .u64 Cd (gshl .u64 Cd 13)) (gshr .u64 (gxork .u64 Cd (gshl .u64 Cd 13)) 7)) (gshl .u64 (gxork .u64 (gxork .u64 Cd (gshl .u64 Cd 13)) (gshr .u64 (gxork .u64 Cd (gshl .u64 Cd 13)) 7)) 17)))) (o' := Cg) 0 0 rfl rfl rfl
 refine st (v := (.int .u64 (gxork .u64 (gxork .u64 (gxork .u64 Cd (gshl .u64 Cd 13)) (gshr .u64 (gxork .u64 Cd (gshl .u64 Cd 13)) 7)) (gshl .u64 (gxork .u64 (gxork .u64 Cd (gshl .u64 Cd 13)) (gshr .u64 (gxork .u64 Cd (gshl .u64 Cd 13)) 7)) 17)))) (rv_load1 Tryz.underlying190 rfl rfl hc16) (sa (.int .u64 (gxork .u64 (gxork .u64 (gxork .u64 Cd (gshl .u64 Cd 13)) (gshr .u64 (gxork .u64 Cd (gshl .u64 Cd 13)) 7)) (gshl .u64 (gxork .u64 (gxork .u64 Cd (gshl .u64 Cd 13)) (gshr .u64 (gxork .u64 Cd (gshl .u64 Cd 13)) 7)) 17))) rfl (w_end (q_then (c_ret ?_))))
 obtain rfl := sj h
 exact fin_ret (v := (.int .u64 (gxork .u64 (gxork .u64 (gxork .u64 Cd (gshl .u64 Cd 13)) (gshr .u64 (gxork .u64 Cd (gshl .u64 Cd 13)) 7)) (gshl .u64 (gxork .u64 (gxork .u64 Cd (gshl .u64 Cd 13)) (gshr .u64 (gxork .u64 Cd (gshl .u64 Cd 13)) 7)) 17)))) (results_ok Tryz.results199 (res_tmp (v := (.int .u64 (gxork .u64 (gxork .u64 (gxork .u64 Cd (gshl .u64 Cd 13)) (gshr .u64 (gxork .u64 Cd (gshl .u64 Cd 13)) 7)) (gshl .u64 (gxork .u64 (gxork .u64 Cd (gshl .u64 Cd 13)) (gshr .u64 (gxork .u64 Cd (gshl .u64 Cd 13)) 7)) 17)))) rfl res_nil) rfl) ⟨rfl, rfl⟩ (H.sel' [0] rfl rfl)

theorem c_slices_Values_impl_hitHeap_impl_Hit {Ck : List (Int × Int)} {Cl : Option Addr} {Cm : Nat} {r : Unit} (h : M.slices_Values_impl_hitHeap_impl_Hit Ck = some r) :
    Cal2 Tryz.prog 163 [(Sl Cl Ck Cm)] [Ch.ro 0 (Sl Cl Ck Cm) Ck] (fun n0 v L => ∃ (bz1 : Nat), v = (.func (.func 193) #[] #[(pt bz1 0)]) ∧ L = [Ch.bx n0 bz1 0 [(Sl Cl Ck Cm)] [] []]) := by
 refine cal2 (n := 4) Tryz.func163 rfl rfl rfl rfl ?_
 intro S0 σ0 n0 hn0 H
 unfold M.slices_Values_impl_hitHeap_impl_Hit at h
 refine c_seq (rg (st_ex (ex_box (cs := [(Sl Cl Ck Cm)]) H hn0 rfl rfl) wn ?_))
 rintro _ σ2 ⟨b1, rfl, H, -⟩
 refine sa (.nilFunc) rfl (w_end (q_then (c_seq (rg (st (v := (.func (.func 193) #[] #[(pt b1 0)])) (rv_makeFunc (vs := [(pt b1 0)]) rfl) (sa (.func (.func 193) #[] #[(pt b1 0)]) rfl (w_end (q_then (c_ret ?_)))))))))
 obtain rfl := sj h
 exact fin_ret (v := (.func (.func 193) #[] #[(pt b1 0)])) (results_ok Tryz.results163 (res_tmp (v := (.func (.func 193) #[] #[(pt b1 0)])) rfl res_nil) rfl) ⟨b1, rfl, rfl⟩ (H.sel' [0] rfl rfl)

theorem it_slices_AppendSeq_impl_Hit_impl_Hit__slices_Values_impl_hitHeap_impl_Hit_1 {b o c l : Nat} {a : Option Addr} {xs : List (Int × Int)} {J : Nat → St → Prop} (hst : ∀ {i σ σ'}, J i σ → Md (fun _ => False) σ σ' → J i σ')
    (hbx : ∀ {i σ}, J i σ → HCell σ.w.heap b o = some (Sl a xs c) ∧ Rd 0 σ (Sl a xs c) xs) (hn : xs.length ≤ 2147483648)
    (hy : ∀ i, (h : i < xs.length) → ∀ σ, J i σ → YieldAt Fence.wide 0 Tryz.prog l [(.agg #[(I (xs[i]).1), (I (xs[i]).2)])].toArray σ.w fun e W' => e = .returned (.bool true) ∧ ∃ σ', W' = σ'.w ∧ J (i + 1) σ')
    (σ : St) (h0 : J 0 σ) : CallsIn Fence.wide 0 Tryz.prog 193 [.func (.yield l) #[] #[], (pt b o)].toArray σ.w fun e W' => (∃ v, e = .returned v) ∧ ∃ σ', W' = σ'.w ∧ J xs.length σ' := by
  refine enterI (n := 16) Tryz.func193 rfl rfl rfl ?_
  refine wpIn_seq ?_
  obtain ⟨hc, -⟩ := hbx h0
  refine rgI ?_
  refine stI nofun (v := (Sl a xs c)) (rv_load1 Tryz.underlying132 rfl rfl hc) ?_
  refine stI nofun (v := (I (xs.length : Int))) (rv_len Tryz.underlying132 rfl) ?_
  refine stI nofun (v := (I 0)) (rv_move rfl) ?_
  refine endI ?_
  refine q_then (wpIn_block ?_)
  refine wpIn_loop_ghost (fun k a' w' => ∃ i ρ σ, i + k = xs.length ∧ a' = fr 16 (updL ρ [(0, .func (.yield l) #[] #[]), (1, pt b o), (5, Sl a xs c), (6, I (xs.length : Int)), (7, I (i : Int))]) ∧ w' = σ.w ∧ J i σ) xs.length ⟨0, _, σ, by omega, fr_join ⟨rfl, rfl, rfl, rfl, rfl, trivial⟩, rfl, h0⟩ ?_
  clear hc h0
  rintro k _ _ ⟨i, ρ, σ, hik, rfl, rfl, hJ⟩
  refine wpIn_seq ?_
  refine rgI ?_
  refine stI nofun (v := (B (decide ((i : Int) < (xs.length : Int))))) (rv_lss (a := (i : Int)) (b := (xs.length : Int)) rfl rfl) ?_
  refine endI ?_
  refine q_then (wpIn_seq ?_)
  refine cdI_cond (decide ((i : Int) < (xs.length : Int))) rfl (fun hb => ?_) (fun hb => ?_)
  · have hlt : i < xs.length := by have := of_decide_eq_true hb; omega
    refine wpIn_skip ?_
    refine q_then (wpIn_seq ?_)
    refine wpIn_block ?_
    refine wpIn_seq ?_
    refine rgI ?_
    have hg : gidx xs (i : Int) = some xs[i] := gidx_at hlt
    obtain ⟨-, hR⟩ := hbx hJ
    obtain ⟨bx, ox, hi, hat⟩ := hR.ix hg
    obtain ⟨_, ⟨_, _, rfl, rfl, rfl⟩, hl, hcx⟩ := hat.cells
    refine stI nofun (v := (pt bx ox)) (rv_ix Tryz.underlying132 ti43 rfl rfl hi) ?_
    refine stI nofun (v := (.agg #[(I (xs[i]).1), (I (xs[i]).2)])) (rv_load (cs := [(I (xs[i]).1), (I (xs[i]).2)]) Tryz.underlying43 rfl ti43 rfl hl hcx) ?_
    have H : Hp (cov []) σ σ [] := Hp.begin trivial trivial
    refine stI_ex nofun (ex_alloc (lo := 0) H (Nat.zero_le _) ti43 rfl) ?_
    rintro _ σ2 ⟨b4, rfl, H, -⟩
    refine stI_exS nofun (ex_store_box (vs := [(I (xs[i]).1), (I (xs[i]).2)]) (k := 0) H (i := 0) rfl ti43 rfl rfl rfl rfl rfl (Nat.le_of_ble_eq_true rfl) (by simp [plain]) rfl) ?_
    rintro σ3 ⟨H, -⟩
    refine endI ?_
    refine q_then (wpIn_seq ?_)
    refine rgI ?_
    refine stI nofun (v := (.func (.yield l) #[] #[])) (rv_move rfl) ?_
    have hc4 := H.cells 0 rfl
    refine stI nofun (v := (.agg #[(I (xs[i]).1), (I (xs[i]).2)])) (rv_load (cs := [(I (xs[i]).1), (I (xs[i]).2)]) Tryz.underlying43 rfl ti43 rfl rfl hc4) ?_
    refine stI_yield (args := [(.agg #[(I (xs[i]).1), (I (xs[i]).2)])]) rfl rfl (hy i hlt σ3 (hst hJ H.md)) ?_
    rintro e w' ⟨rfl, σ4, rfl, hJ4⟩
    refine ⟨_, rfl, ?_⟩
    refine stI nofun (v := (B (!true))) (rv_not rfl) ?_
    refine endI ?_
    refine q_then ?_
    refine cdI_cond false rfl (fun hb => by cases hb) (fun _ => ?_)
    refine wpIn_skip ?_
    refine q_blk (q_then (rgI ?_))
    refine stI nofun (v := (I (w64 ((i : Int) + 1)))) (rv_add (a := (i : Int)) (b := 1) rfl rfl) ?_
    refine stI nofun (v := (I (w64 ((i : Int) + 1)))) (rv_move rfl) ?_
    refine endI ?_
    have e1 : w64 ((i : Int) + 1) = ((i + 1 : Nat) : Int) := w64_id (by omega) (by omega)
    rw [e1]
    refine q_then ?_
    exact ⟨k - 1, by omega, i + 1, _, σ4, by omega, fr_join ⟨rfl, rfl, rfl, rfl, rfl, trivial⟩, rfl, hJ4⟩
  · have hlt : ¬ i < xs.length := by have := of_decide_eq_false hb; omega
    have : i = xs.length := by omega
    subst this
    refine wpIn_exit ?_
    refine q_then_x (q_then_x (q_blk_hit ?_))
    exact fin_plain' (v := .tuple #[]) (results_ok Tryz.results193 res_nil rfl) ⟨⟨_, rfl⟩, σ, rfl, hJ⟩
theorem c_slices_AppendSeq_impl_Hit_impl_Hit__slices_Values_impl_hitHeap_impl_Hit_1 {Cn : List (Int × Int)} {Cp : Option Addr} {Cq : Nat} {Cr Cs Ct : Nat} {Cu Cv : List Value} {r : List (Int × Int)} (h : M.slices_AppendSeq_impl_Hit_impl_Hit__slices_Values_impl_hitHeap_impl_Hit_1 Cn = some r) :
    Cal2 Tryz.prog 202 [.slice none 0 0, (.func (.func 193) #[] #[(pt Cs Ct)])] [Ch.bx Cr Cs Ct [(Sl Cp Cn Cq)] Cu Cv, Ch.ro 0 (Sl Cp Cn Cq) Cn] (fun n0 v L => ∃ (az1 : Option Addr), ∃ (cz2 : Nat), v = (Sl az1 r cz2) ∧ L = [Ch.own n0 n0 (Sl az1 r cz2) r, Ch.bx Cr Cs Ct [(Sl Cp Cn Cq)] Cu Cv]) := by
  obtain ⟨hn, rfl⟩ := coll_some (show M.coll Cn = some r from h)
  refine ⟨⟨_, _, Tryz.func202, rfl, rfl⟩, fun σ0 n0 hn0 H => ?_⟩
  refine callsIn_wide.1 (enterI (n := 13) Tryz.func202 rfl rfl rfl ?_)
  refine wpIn_seq ?_
  refine rgI ?_
  refine stI_ex nofun (ex_box (cs := [.slice none 0 0]) H hn0 rfl rfl) ?_
  rintro _ σ1 ⟨b1, rfl, H, -⟩
  refine stI nofun (v := (.slice none 0 0)) (rv_assign rfl) ?_
  refine endI ?_
  refine q_then (wpIn_seq ?_)
  refine wpIn_seq ?_
  refine rgI ?_
  refine stI nofun (v := (.func (.func 193) #[] #[(pt Cs Ct)])) (rv_move rfl) ?_
  refine endI ?_
  refine q_then (wpIn_block ?_)
  replace H := H.nilOwn (Int × Int) n0 n0
  refine wp_rangeF (gf := 193) (lb := #[(pt Cs Ct)]) (N := r.length) (encs := fun i => [(.agg #[(I (r.getD i (0, 0)).1), (I (r.getD i (0, 0)).2)])].toArray) (by rw [fr_eval]; rfl) (eg_of ⟨_, _, Tryz.func193, rfl, rfl⟩) (fun _ _ => rfl)
    (fun i L => ∃ a' c', L = [Ch.own n0 n0 (Sl a' (r.take i) c') (r.take i), Ch.bx n0 b1 0 [(Sl a' (r.take i) c')] [] [], Ch.bx Cr Cs Ct [(Sl Cp r Cq)] Cu Cv, Ch.ro 0 (Sl Cp r Cq) r]) ⟨none, 0, rfl⟩ H ?_ ?_ ?_
  · intro l J hst hJ hy σ h0
    refine it_slices_AppendSeq_impl_Hit_impl_Hit__slices_Values_impl_hitHeap_impl_Hit_1 (J := J) (a := Cp) (c := Cq) hst (fun {i σ} h => ?_) hn (fun i hi σ h => ?_) σ h0
    · obtain ⟨L, R, ⟨a', c', rfl⟩, H⟩ := hJ h
      have H2 := H.drop R
      exact ⟨H2.cells 2 rfl 0 (by simp), (H2.ro 3 rfl).rd⟩
    · have := hy i hi σ h
      simpa [List.getD, hi] using this
  · rintro l D i rc rc' hi σ _ ⟨a', c', rfl⟩ H
    have hgd : r.getD i (0, 0) = r[i] := by simp [List.getD, hi]
    simp only [hgd]
    rw [round_fr]
    refine rgI ?_
    refine stI_ex nofun (ex_alloc (lo := n0) H hn0 ti43 rfl) ?_
    rintro _ σ2 ⟨b5, rfl, H, -⟩
    refine stI_exS nofun (ex_store_box (vs := [(I (r[i]).1), (I (r[i]).2)]) (cs' := [(I (r[i]).1), (I (r[i]).2)]) (k := 0) H (i := 0) rfl ti43 rfl rfl rfl rfl rfl (Nat.le_of_ble_eq_true rfl) (by simp [plain]) rfl) ?_
    rintro σ3 ⟨H, -⟩
    refine endI ?_
    refine q_then ?_
    refine ⟨σ3, _, rfl, H.sel' [1, 2, 0, 3, 4, 5, 6] rfl rfl, ?_⟩
    clear H
    intro σ4 H
    refine wpIn_block ?_
    refine rgI ?_
    have hc1 := H.cells 4 rfl
    refine stI nofun (v := (Sl a' (r.take i) c')) (rv_load1 Tryz.underlying30 rfl rfl (hc1 0 (by simp))) ?_
    have hc5 := H.cells 2 rfl
    refine stI nofun (v := (.agg #[(I (r[i]).1), (I (r[i]).2)])) (rv_load (cs := [(I (r[i]).1), (I (r[i]).2)]) Tryz.underlying43 rfl ti43 rfl rfl hc5) ?_
    refine stI_ex nofun (ex_buildSlice (lo := n0) (el := n0) (xs := ([((r[i]).1, (r[i]).2)] : List (Int × Int))) (ps := [(0, (.agg #[(I (r[i]).1), (I (r[i]).2)]))]) (cs := [(I (r[i]).1), (I (r[i]).2)]) H hn0 Tryz.underlying30 ti43 rfl rfl (by kernel_rfl) (.cons (c := [(I (r[i]).1), (I (r[i]).2)]) ⟨_, _, rfl, rfl, rfl⟩ .nil) rfl) ?_
    rintro _ σ5 ⟨b10, rfl, H, -⟩
    refine stI_ex nofun (ex_append H (i := 4) rfl Tryz.underlying30 Tryz.underlying30 ti43 rfl rfl (by decide) (H.own 0 rfl).rd (take_gapp hi hn) hn0 rfl rfl) ?_
    rintro _ σ6 ⟨a2, c2, rfl, H, -⟩
    refine stI_exS nofun (ex_store_box (vs := [(Sl a2 (r.take (i + 1)) c2)]) (cs' := [(Sl a2 (r.take (i + 1)) c2)]) (k := 0) H (i := 5) rfl ti30 rfl rfl rfl rfl rfl (Nat.le_of_ble_eq_true rfl) (by simp [plain, Sl]) rfl) ?_
    rintro σ7 ⟨H, -⟩
    refine endI ?_
    refine q_blk ?_
    exact ⟨rfl, σ7, _, rfl, ⟨a2, c2, rfl⟩, H.sel' [3, 4, 1, 0, 6, 7] rfl rfl⟩
  · rintro D σ _ ⟨a', c', rfl⟩ H
    rw [List.take_length] at H
    refine q_blk (q_then (wpIn_seq ?_))
    refine rgD (ds := [{ target := .collected D, args := #[] }]) ?_
    have hc1 := H.cells 2 rfl
    refine stD nofun (v := (Sl a' r c')) (rv_load1 Tryz.underlying30 rfl rfl (hc1 0 (by simp))) ?_
    refine stD nofun (v := (Sl a' r c')) (rv_assign rfl) ?_
    refine endD ?_
    refine q_then (wpIn_ret ?_)
    exact fin_mark (v := Sl a' r c') H (results_ok Tryz.results202 (res_tmp (v := Sl a' r c') rfl res_nil) rfl) ⟨_, _, _, rfl, rfl, ⟨a', c', rfl, rfl⟩, (H.putDf _).sel' [0, 2] rfl rfl⟩

theorem c_slices_Collect_impl_Hit__slices_Values_impl_hitHeap_impl_Hit_1 {Cw : List (Int × Int)} {Cy : Option Addr} {Cz : Nat} {Da Db Dc : Nat} {Dd De : List Value} {r : (List (Int × Int))} (h : M.slices_Collect_impl_Hit__slices_Values_impl_hitHeap_impl_Hit_1 Cw = some r) :
    Cal2 Tryz.prog 191 [(.func (.func 193) #[] #[(pt Db Dc)])] [Ch.bx Da Db Dc [(Sl Cy Cw Cz)] Dd De, Ch.ro 0 (Sl Cy Cw Cz) Cw] (fun n0 v L => ∃ (az1 : Option Addr), ∃ (cz2 : Nat), v = (Sl az1 r cz2) ∧ L = [Ch.own n0 n0 (Sl az1 r cz2) r, Ch.bx Da Db Dc [(Sl Cy Cw Cz)] Dd De]) := by
 refine cal2 (n := 5) Tryz.func191 rfl rfl rfl rfl ?_
 intro S0 σ0 n0 hn0 H
 unfold M.slices_Collect_impl_Hit__slices_Values_impl_hitHeap_impl_Hit_1 at h
 refine c_seq (rg (sa (.slice none 0 0) rfl (w_end (q_then (c_seq (rg (sm (.func (.func 193) #[] #[(pt Db Dc)]) rfl ?_)))))))
 revert h; refine br fun r1 hx2 h => ?_
 have hc3 := c_slices_AppendSeq_impl_Hit_impl_Hit__slices_Values_impl_hitHeap_impl_Hit_1 (Cr := Da) (Cs := Db) (Ct := Dc) (Cu := Dd) (Cv := De) (Cp := Cy) (Cq := Cz) hx2
 refine st_call (cx_call hc3 (ent_f hc3.fn rfl) hn0 (H.sel' [0, 1, 1] rfl rfl : Hp S0 σ0 _ ([_, _] ++ _))) wn ?_
 rintro _ σ6 ⟨_, ⟨a4, c5, rfl, rfl⟩, H, -⟩
 replace H : Hp _ _ _ [_, _, _] := H
 refine sa (Sl a4 r1 c5) rfl (w_end (q_then (c_ret ?_)))
 obtain rfl := sj h
 exact fin_ret (v := (Sl a4 r1 c5)) (results_ok Tryz.results191 (res_tmp (v := (Sl a4 r1 c5)) rfl res_nil) rfl) ⟨a4, c5, rfl, rfl⟩ (H.sel' [0, 1] rfl rfl)

def sort192_ren : Go.Shelf.Ren := ⟨fun | 6 => 192 | 15 => 149 | 14 => 203 | 28 => 186 | 29 => 187 | 20 => 213 | 21 => 214 | 22 => 215 | 23 => 216 | 24 => 217 | 25 => 218 | 26 => 219 | 27 => 220 | 46 => 224 | 47 => 198 | 48 => 199 | 49 => 225 | 50 => 226 | 57 => 228 | n => n, fun | 22 => 30 | 24 => 43 | 25 => 119 | 3 => 3 | 39 => 150 | 0 => 0 | 53 => 176 | 55 => 178 | 4 => 4 | 46 => 170 | 45 => 169 | 50 => 113 | 5 => 5 | 9 => 9 | 66 => 190 | 70 => 194 | 76 => 203 | 77 => 204 | n => n, fun | n => n⟩
theorem sort192 : Go.Proofs.SlLaysF0.n6 Tryz.prog sort192_ren := {
  mixed := by kernel_rfl
  f6 := ⟨Tryz.f192.name, by decide, Tryz.func192.trans (congrArg some (by kernel_rfl))⟩
  f14 := ⟨Tryz.f203.name, by decide, Tryz.func203.trans (congrArg some (by kernel_rfl))⟩
  f15 := Tryz.func149.trans (congrArg some (by kernel_rfl))
  f20 := ⟨Tryz.f213.name, by decide, Tryz.func213.trans (congrArg some (by kernel_rfl))⟩
  f21 := ⟨Tryz.f214.name, by decide, Tryz.func214.trans (congrArg some (by kernel_rfl))⟩
  f22 := ⟨Tryz.f215.name, by decide, Tryz.func215.trans (congrArg some (by kernel_rfl))⟩
  f23 := ⟨Tryz.f216.name, by decide, Tryz.func216.trans (congrArg some (by kernel_rfl))⟩
  f24 := ⟨Tryz.f217.name, by decide, Tryz.func217.trans (congrArg some (by kernel_rfl))⟩
  f25 := ⟨Tryz.f218.name, by decide, Tryz.func218.trans (congrArg some (by kernel_rfl))⟩
  f26 := ⟨Tryz.f219.name, by decide, Tryz.func219.trans (congrArg some (by kernel_rfl))⟩
  f27 := ⟨Tryz.f220.name, by decide, Tryz.func220.trans (congrArg some (by kernel_rfl))⟩
  f28 := Tryz.func186.trans (congrArg some (by kernel_rfl))
  f29 := Tryz.func187.trans (congrArg some (by kernel_rfl))
  f46 := ⟨Tryz.f224.name, by decide, Tryz.func224.trans (congrArg some (by kernel_rfl))⟩
  f47 := Tryz.func198.trans (congrArg some (by kernel_rfl))
  f48 := Tryz.func199.trans (congrArg some (by kernel_rfl))
  f49 := ⟨Tryz.f225.name, by decide, Tryz.func225.trans (congrArg some (by kernel_rfl))⟩
  f50 := ⟨Tryz.f226.name, by decide, Tryz.func226.trans (congrArg some (by kernel_rfl))⟩
  f57 := ⟨Tryz.f228.name, by decide, Tryz.func228.trans (congrArg some (by kernel_rfl))⟩
  t0 := Tryz.underlying0
  a0 := Tryz.isAgg0
  z0 := Tryz.sizeOf0
  v0 := Tryz.zeroValue0
  t3 := Tryz.underlying3
  a3 := Tryz.isAgg3
  z3 := Tryz.sizeOf3
  v3 := Tryz.zeroValue3
  t4 := Tryz.underlying4
  a4 := Tryz.isAgg4
  z4 := Tryz.sizeOf4
  v4 := Tryz.zeroValue4
  t5 := Tryz.underlying5
  a5 := Tryz.isAgg5
  z5 := Tryz.sizeOf5
  v5 := Tryz.zeroValue5
  t9 := Tryz.underlying9
  a9 := Tryz.isAgg9
  z9 := Tryz.sizeOf9
  v9 := Tryz.zeroValue9
  t22 := Tryz.underlying30
  a22 := Tryz.isAgg30
  z22 := Tryz.sizeOf30
  v22 := Tryz.zeroValue30
  t25 := Tryz.underlying119
  a25 := Tryz.isAgg119
  z25 := Tryz.sizeOf119
  v25 := Tryz.zeroValue119
  t39 := Tryz.underlying150
  a39 := Tryz.isAgg150
  z39 := Tryz.sizeOf150
  v39 := Tryz.zeroValue150
  t45 := Tryz.underlying169
  a45 := Tryz.isAgg169
  z45 := Tryz.sizeOf169
  v45 := Tryz.zeroValue169
  t46 := Tryz.underlying170
  a46 := Tryz.isAgg170
  z46 := Tryz.sizeOf170
  v46 := Tryz.zeroValue170
  t50 := Tryz.underlying113
  a50 := Tryz.isAgg113
  z50 := Tryz.sizeOf113
  v50 := Tryz.zeroValue113
  t53 := Tryz.underlying176
  a53 := Tryz.isAgg176
  z53 := Tryz.sizeOf176
  v53 := Tryz.zeroValue176
  t55 := Tryz.underlying178
  a55 := Tryz.isAgg178
  z55 := Tryz.sizeOf178
  v55 := Tryz.zeroValue178
  t66 := Tryz.underlying190
  a66 := Tryz.isAgg190
  z66 := Tryz.sizeOf190
  v66 := Tryz.zeroValue190
  t70 := Tryz.underlying194
  a70 := Tryz.isAgg194
  z70 := Tryz.sizeOf194
  v70 := Tryz.zeroValue194
  t76 := Tryz.underlying203
  a76 := Tryz.isAgg203
  z76 := Tryz.sizeOf203
  v76 := Tryz.zeroValue203
  t77 := Tryz.underlying204
  a77 := Tryz.isAgg204
  z77 := Tryz.sizeOf204
  v77 := Tryz.zeroValue204 }

theorem c_slices_SortFunc_impl_Hit_impl_Hit__impl_compareHits {Aj : List (Int × Int)} {Dg : Option Addr} {Dh : Nat} {r : List (Int × Int)} (h : M.slices_SortFunc_impl_Hit_impl_Hit__impl_compareHits Aj = some r) :
    Cal2 Tryz.prog 192 [(Sl Dg Aj Dh), (.func (.func 98) #[] #[])] [Ch.own 0 0 (Sl Dg Aj Dh) Aj] (fun n0 v L => v = (.tuple #[]) ∧ L = [Ch.own 0 0 (Sl Dg r Dh) r] ∧ r.length = Aj.length) := by
 obtain ⟨hn, hs, hL, rfl⟩ := sortD_some h
 have hE : ∀ σ σ' : St, Ext σ σ' → (True) → (True) := fun _ _ _ hp => hp
 have hB : ∀ σ : St, allAs σ [] → apart [] → ∃ σp, Pb (cov []) σ σp ∧ True := fun σ _ _ => ⟨σ, ⟨rfl, fun _ _ => rfl, fun _ => Nat.le_refl _⟩, trivial⟩
 have hC : ∀ σ : St, (True) → ∀ x ∈ Aj, ∀ y ∈ Aj, ∀ cx cy, Rp.rp 0 σ cx x → Rp.rp 0 σ cy y → Calls Tryz.prog 98 ([Value.agg cx.toArray, Value.agg cy.toArray] ++ []).toArray σ.w fun e w' => e = .returned (I ((M.impl_compareHits (x.1, x.2) (y.1, y.2)).getD 0)) ∧ ∃ q os, w' = Go.Sort.grow (σ.w.drewN q) os := by
     intro σ hp x hx y hy cx cy rx ry
     obtain ⟨r, hr⟩ := hs x hx y hy
     obtain ⟨_, _, rfl, rfl, rfl⟩ := rx
     obtain ⟨_, _, rfl, rfl, rfl⟩ := ry
     have hc := c_impl_compareHits  hr
     refine (hc.runs σ 0 (Nat.zero_le _) (Hp.begin trivial trivial)).mono ?_
     rintro e w' ⟨v, σ', L', rfl, rfl, ⟨rfl, -⟩, H⟩
     exact ⟨by rw [hr]; rfl, (H.md.mono fun i => fun h => h).grown⟩
 refine (sort_cal2 (α := (Int × Int)) sort192 Tryz.isAgg43 Tryz.sizeOf43 (xs := Aj) (a := Dg) (c := Dh) (g := 98) (cb := []) (B := []) (fun x y => (M.impl_compareHits (x.1, x.2) (y.1, y.2)).getD 0) hL hn ⟨_, _, Tryz.func98, rfl, rfl⟩ _ hE hB hC).conv ?_
 rintro m v L ⟨rfl, rfl⟩
 exact ⟨_, ⟨rfl, rfl, sortL_len⟩, fun H => H.sel' [0] rfl rfl⟩

theorem c_slices_SortedFunc_impl_Hit__slices_Values_impl_hitHeap_impl_Hit_1__impl_compareHits {Cw : List (Int × Int)} {Cy : Option Addr} {Cz : Nat} {Da Db Dc : Nat} {Dd De : List Value} {r : (List (Int × Int))} (h : M.slices_SortedFunc_impl_Hit__slices_Values_impl_hitHeap_impl_Hit_1__impl_compareHits Cw = some r) :
    Cal2 Tryz.prog 162 [(.func (.func 193) #[] #[(pt Db Dc)]), (.func (.func 98) #[] #[])] [Ch.bx Da Db Dc [(Sl Cy Cw Cz)] Dd De, Ch.ro 0 (Sl Cy Cw Cz) Cw] (fun n0 v L => ∃ (az1 : Option Addr), ∃ (cz2 : Nat), v = (Sl az1 r cz2) ∧ L = [Ch.own 0 n0 (Sl az1 r cz2) r, Ch.bx Da Db Dc [(Sl Cy Cw Cz)] Dd De]) := by
 refine cal2 (n := 12) Tryz.func162 rfl rfl rfl rfl ?_
 intro S0 σ0 n0 hn0 H
 unfold M.slices_SortedFunc_impl_Hit__slices_Values_impl_hitHeap_impl_Hit_1__impl_compareHits at h
 refine c_seq (rg (sa (.slice none 0 0) rfl (w_end (q_then (c_seq (rg (sm (.func (.func 193) #[] #[(pt Db Dc)]) rfl ?_)))))))
 revert h; refine br fun r1 hx2 h => ?_
 have hc3 := c_slices_Collect_impl_Hit__slices_Values_impl_hitHeap_impl_Hit_1 (Da := Da) (Db := Db) (Dc := Dc) (Dd := Dd) (De := De) (Cy := Cy) (Cz := Cz) hx2
 refine st_call (cx_call hc3 (ent_f hc3.fn rfl) hn0 (H.sel' [0, 1, 1] rfl rfl : Hp S0 σ0 _ ([_, _] ++ _))) wn ?_
 rintro _ σ6 ⟨_, ⟨a4, c5, rfl, rfl⟩, H, -⟩
 replace H : Hp _ _ _ [_, _, _] := H
 refine sa (Sl a4 r1 c5) rfl (w_end (q_then (c_seq (rg (sm (Sl a4 r1 c5) rfl (sm (.func (.func 98) #[] #[]) rfl ?_))))))
 replace H := H.ownLow 0 0 0 rfl (Nat.zero_le _) (Nat.zero_le _)
 revert h; refine br fun r7 hx8 h => ?_
 have hc9 := c_slices_SortFunc_impl_Hit_impl_Hit__impl_compareHits (Dg := a4) (Dh := c5) hx8
 refine st_call (cx_call hc9 (ent_f hc9.fn rfl) hn0 (H.sel' [0, 1, 2] rfl rfl : Hp S0 σ0 _ ([_] ++ _))) wn ?_
 rintro _ σ11 ⟨_, ⟨rfl, rfl, hn10⟩, H, -⟩
 replace H : Hp _ _ _ [_, _, _] := H
 have hsl : (Sl a4 r1 c5) = (Sl a4 r7 c5) := sl_len hn10.symm
 try rw [hsl]
 try rw [hsl] at H
 clear hsl
 refine w_end (q_then (c_seq (rg (sm (Sl a4 r7 c5) rfl (sa (Sl a4 r7 c5) rfl (w_end (q_then (c_ret ?_))))))))
 replace H := H.ownSc 0 0 n0 rfl (Nat.le_refl _)
 obtain rfl := sj h
 exact fin_ret (v := (Sl a4 r7 c5)) (results_ok Tryz.results162 (res_tmp (v := (Sl a4 r7 c5)) rfl res_nil) rfl) ⟨a4, c5, rfl, rfl⟩ (H.sel' [0, 1] rfl rfl)

theorem c_impl_nearestHits_inOrder {Bt : Int × (List (Int × Int))} {Bv : Option Addr} {Bw : Nat} {By Bz Ca : Nat} {Cb Cc : List Value} {r : (List (Int × Int))} (h : M.impl_nearestHits_inOrder Bt = some r) :
    Cal2 Tryz.prog 120 [(pt Bz Ca)] [Ch.bx By Bz Ca [(I Bt.1), (Sl Bv Bt.2 Bw)] Cb Cc, Ch.ro 0 (Sl Bv Bt.2 Bw) Bt.2] (fun n0 v L => ∃ (az1 : Option Addr), ∃ (cz2 : Nat), v = (Sl az1 r cz2) ∧ L = [Ch.own 0 n0 (Sl az1 r cz2) r, Ch.bx By Bz Ca [(I Bt.1), (Sl Bv Bt.2 Bw)] Cb Cc]) := by
 refine cal2 (n := 9) Tryz.func120 rfl rfl rfl rfl ?_
 intro S0 σ0 n0 hn0 H
 unfold M.impl_nearestHits_inOrder at h
 refine c_seq (rg (sa (.slice none 0 0) rfl (w_end (q_then (c_seq (rg (sm (pt Bz Ca) rfl (st (v := (pt Bz Ca)) (rv_nilCheck rfl) (st (v := (pt Bz (Ca + 1))) (rv_fieldAddr (off := 1) (ft := 132) Tryz.underlying134 rfl ti132 rfl rfl) ?_)))))))))
 have hc1 := H.cell (u := (Sl Bv Bt.2 Bw)) (o' := (Ca + 1)) 0 1 rfl rfl rfl
 refine st (v := (Sl Bv Bt.2 Bw)) (rv_load1 Tryz.underlying132 rfl rfl hc1) ?_
 revert h; refine br fun r2 hx3 h => ?_
 have hc4 := c_slices_Values_impl_hitHeap_impl_Hit (Cl := Bv) (Cm := Bw) hx3
 refine st_call (cx_call hc4 (ent_f hc4.fn rfl) hn0 (H.sel' [1, 0, 1] rfl rfl : Hp S0 σ0 _ ([_] ++ _))) wn ?_
 rintro _ σ6 ⟨_, ⟨b5, rfl, rfl⟩, H, -⟩
 replace H : Hp _ _ _ [_, _, _] := H
 revert h; refine br fun r7 hx8 h => ?_
 have hc9 := c_slices_SortedFunc_impl_Hit__slices_Values_impl_hitHeap_impl_Hit_1__impl_compareHits (Da := n0) (Db := b5) (Dc := 0) (Dd := []) (De := []) (Cy := Bv) (Cz := Bw) hx8
 refine st_call (cx_call hc9 (ent_f hc9.fn rfl) hn0 (H.sel' [0, 2, 1, 2] rfl rfl : Hp S0 σ0 _ ([_, _] ++ _))) wn ?_
 rintro _ σ12 ⟨_, ⟨a10, c11, rfl, rfl⟩, H, -⟩
 replace H : Hp _ _ _ [_, _, _, _] := H
 refine sa (Sl a10 r7 c11) rfl (w_end (q_then (c_ret ?_)))
 obtain rfl := sj h
 exact fin_ret (v := (Sl a10 r7 c11)) (results_ok Tryz.results120 (res_tmp (v := (Sl a10 r7 c11)) rfl res_nil) rfl) ⟨a10, c11, rfl, rfl⟩ (H.sel' [0, 2] rfl rfl)

end Go.Vs
