/- The functions compute what their models say. -/
import Derived.Test.YtfcemgcmpcmgcaaKAddEntryM
import Derived.Test.YtfcemgcmpcmgcaaAddEntryEng2
import Derived.Test.YtfcemgcmpcmgcaaProg
set_option linter.unusedVariables false
set_option linter.unusedSimpArgs false
set_option maxHeartbeats 2000000
set_option maxRecDepth 20000
namespace Go.Vs
open Go Go.Proofs
attribute [local irreducible] Code.wp Code.wpIn wpList wpListIn wpQuiet Calls CallsIn

instance : Rp (If2 Int ((Int × (List Int) × Int))) := rp2 94 98
theorem ti3 : TI Try.prog 3 (.int .i64 0) 1 8 := TI.mk' (by kernel_rfl)
theorem ti5 : TI Try.prog 5 (.int .u8 0) 1 1 := TI.mk' (by kernel_rfl)
theorem ti22 : TI Try.prog 22 (.slice none 0 0) 1 24 := TI.mk' (by kernel_rfl)
theorem ti23 : TI Try.prog 23 (.slice none 0 0) 1 24 := TI.mk' (by kernel_rfl)
theorem ti24 : TI Try.prog 24 (.slice none 0 0) 1 24 := TI.mk' (by kernel_rfl)
theorem ti26 : TI Try.prog 26 (.agg #[(.slice none 0 0), (.slice none 0 0)]) 2 48 := TI.mk' (by kernel_rfl)
theorem ti41 : TI Try.prog 41 (.agg #[(.int .i64 0), (.slice none 0 0), (.int .i64 0)]) 3 40 := TI.mk' (by kernel_rfl)
theorem ti43 : TI Try.prog 43 (.agg #[(.int .i64 0), (.int .i64 0), (.slice none 0 0), (.int .i64 0)]) 4 48 := TI.mk' (by kernel_rfl)
theorem ti67 : TI Try.prog 67 (.pointer none) 1 8 := TI.mk' (by kernel_rfl)
theorem ti75 : TI Try.prog 75 .nilIface 1 16 := TI.mk' (by kernel_rfl)
theorem ti94 : TI Try.prog 94 (.agg #[(.int .i64 0)]) 1 8 := TI.mk' (by kernel_rfl)
theorem ti98 : TI Try.prog 98 (.agg #[(.int .i64 0), (.slice none 0 0), (.int .i64 0)]) 3 40 := TI.mk' (by kernel_rfl)
theorem ti101 : TI Try.prog 101 (.agg #[(.slice none 0 0), (.int .i64 0)]) 2 32 := TI.mk' (by kernel_rfl)
theorem ti106 : TI Try.prog 106 (.pointer none) 1 8 := TI.mk' (by kernel_rfl)
theorem ti107 : TI Try.prog 107 (.agg #[(.pointer none), (.pointer none)]) 2 16 := TI.mk' (by kernel_rfl)
theorem ti109 : TI Try.prog 109 (.agg #[(.pointer none), (.pointer none), (.pointer none)]) 3 24 := TI.mk' (by kernel_rfl)
theorem bp26 {fs : Array Field} (hT : Try.prog.underlying 26 = some (.struct fs)) (w : World) : (fs.mapM (fun f => do pure (f.offset, ← sizeOf f.type)) : Sem (Array (Nat × Nat))).run Try.prog w = .ok #[(0, 1), (1, 1)] w := by
  rw [Try.underlying26] at hT; cases hT
  simp [run_typeInfo ti23, run_typeInfo ti24]
theorem bp41 {fs : Array Field} (hT : Try.prog.underlying 41 = some (.struct fs)) (w : World) : (fs.mapM (fun f => do pure (f.offset, ← sizeOf f.type)) : Sem (Array (Nat × Nat))).run Try.prog w = .ok #[(0, 1), (1, 1), (2, 1)] w := by
  rw [Try.underlying41] at hT; cases hT
  simp [run_typeInfo ti24, run_typeInfo ti3]
theorem bp43 {fs : Array Field} (hT : Try.prog.underlying 43 = some (.struct fs)) (w : World) : (fs.mapM (fun f => do pure (f.offset, ← sizeOf f.type)) : Sem (Array (Nat × Nat))).run Try.prog w = .ok #[(0, 1), (1, 3)] w := by
  rw [Try.underlying43] at hT; cases hT
  simp [run_typeInfo ti3, run_typeInfo ti41]
theorem bp94 {fs : Array Field} (hT : Try.prog.underlying 94 = some (.struct fs)) (w : World) : (fs.mapM (fun f => do pure (f.offset, ← sizeOf f.type)) : Sem (Array (Nat × Nat))).run Try.prog w = .ok #[(0, 1)] w := by
  rw [Try.underlying94] at hT; cases hT
  simp [run_typeInfo ti3]
theorem bp98 {fs : Array Field} (hT : Try.prog.underlying 98 = some (.struct fs)) (w : World) : (fs.mapM (fun f => do pure (f.offset, ← sizeOf f.type)) : Sem (Array (Nat × Nat))).run Try.prog w = .ok #[(0, 3)] w := by
  rw [Try.underlying98] at hT; cases hT
  simp [run_typeInfo ti41]
theorem bp101 {fs : Array Field} (hT : Try.prog.underlying 101 = some (.struct fs)) (w : World) : (fs.mapM (fun f => do pure (f.offset, ← sizeOf f.type)) : Sem (Array (Nat × Nat))).run Try.prog w = .ok #[(0, 1), (1, 1)] w := by
  rw [Try.underlying101] at hT; cases hT
  simp [run_typeInfo ti22, run_typeInfo ti3]
theorem bp109 {fs : Array Field} (hT : Try.prog.underlying 109 = some (.struct fs)) (w : World) : (fs.mapM (fun f => do pure (f.offset, ← sizeOf f.type)) : Sem (Array (Nat × Nat))).run Try.prog w = .ok #[(0, 1), (1, 2)] w := by
  rw [Try.underlying109] at hT; cases hT
  simp [run_typeInfo ti106, run_typeInfo ti107]

theorem c_impl_validKey {Aa : Int}  {r : Bool} (h : M.impl_validKey Aa = some r) :
    Cal2 Try.prog 84 [(I Aa)] [] (fun n0 v L => v = (B r) ∧ L = []) := by
 refine cal2 (n := 9) Try.func84 rfl rfl rfl rfl ?_
 intro S0 σ0 n0 hn0 H
 unfold M.impl_validKey at h
 refine c_seq (rg (sa (B false) rfl (w_end (q_then (c_seq (rg (sm (I Aa) rfl (st (v := (B (decide (1 ≤ Aa)))) (rv_geq (a := Aa) (b := 1) rfl rfl) (sm (B (decide (1 ≤ Aa))) rfl ?_)))))))))
 rcases Bool.eq_false_or_eq_true (decide (1 ≤ Aa)) with hb1 | hb1
 ·replace h := bif_t hb1 h
  refine st_g (v := (I Aa)) (congrArg some hb1) (rv_move rfl) (st_g (v := (B (decide (Aa ≤ 99)))) (congrArg some hb1) (rv_leq (a := Aa) (b := 99) rfl rfl) (st (v := (B (decide (Aa ≤ 99)))) (rv_pick_t (congrArg B hb1) rfl) (sa (B (decide (Aa ≤ 99))) rfl (w_end (q_then (c_ret ?_))))))
  obtain rfl := sj h
  exact fin_ret (v := (B (decide (Aa ≤ 99)))) (results_ok Try.results84 (res_tmp (v := (B (decide (Aa ≤ 99)))) rfl res_nil) rfl) ⟨rfl, rfl⟩ (H.sel' [] rfl rfl)
 ·replace h := bif_f hb1 h
  refine st_skip (congrArg some hb1) (st_skip (congrArg some hb1) (st (v := (B false)) (rv_pick_f (congrArg B hb1) rfl) (sa (B false) rfl (w_end (q_then (c_ret ?_))))))
  obtain rfl := sj h
  exact fin_ret (v := (B false)) (results_ok Try.results84 (res_tmp (v := (B false)) rfl res_nil) rfl) ⟨rfl, rfl⟩ (H.sel' [] rfl rfl)

theorem c_impl_validCoords {Ac : List Int} {Ad : Option Addr} {Ae : Nat} {r : Bool} (h : M.impl_validCoords Ac = some r) :
    Cal2 Try.prog 107 [(Sl Ad Ac Ae)] [Ch.ro 0 (Sl Ad Ac Ae) Ac] (fun n0 v L => v = (B r) ∧ L = []) := by
 refine cal2 (n := 18) Try.func107 rfl rfl rfl rfl ?_
 intro S0 σ0 n0 hn0 H
 unfold M.impl_validCoords at h
 refine c_seq (rg (sa (B false) rfl (w_end (q_then (c_seq (c_seq (rg (sm (Sl Ad Ac Ae) rfl (st (v := (I (Ac.length : Int))) (rv_len Try.underlying24 rfl) (sm (I 0) rfl (w_end ?_)))))))))))
 refine q_then ?_
 obtain ⟨o1, hj, h'⟩ := bind_some h
 clear h
 refine c_cut (fun e a w => (∃ t, o1 = (.inl t) ∧ e = .normal ∧ ∃ (ρ : Nat → Value) (σ : St), a = fr 18 (updL ρ []) ∧ w = σ.w ∧ Hp S0 σ0 σ []) ∨ (∃ t, o1 = (.inr t) ∧ e = .ret ∧ ∃ (ρ : Nat → Value) (σ : St), a = fr 18 (updL ρ [(2, (B t))]) ∧ w = σ.w ∧ Hp S0 σ0 σ [])) ?_ ?_
 ·clear h'
  rename _ = some o1 => h
  refine c_blk (wp_loopM _ h (fun s2 a w => ∃ (ρ : Nat → Value) (σ : St), a = fr 18 (updL ρ [(5, (Sl Ad Ac Ae)), (6, (I (Ac.length : Int))), (7, (I s2))]) ∧ w = σ.w ∧ Hp S0 σ0 σ [Ch.ro 0 (Sl Ad Ac Ae) Ac]) ⟨_, σ0, fr_join ⟨rfl, rfl, rfl, trivial⟩, rfl, H.sel' [0] rfl rfl⟩ ?_)
  clear h H
  rintro s2 a w o ⟨ρ, σ3, rfl, rfl, H⟩ h hres
  refine c_seq (rg (st (v := (B (decide (s2 < (Ac.length : Int))))) (rv_lss (a := s2) (b := (Ac.length : Int)) rfl rfl) (w_end (q_then (c_seq ?_)))))
  refine cd_cond (decide (s2 < (Ac.length : Int))) rfl (fun hb4 => ?_) (fun hb4 => ?_)
  ·replace h := bif_t hb4 h
   refine c_skip (q_then (c_seq (c_blk (c_seq (rg ?_)))))
   revert h; refine br fun x5 hx6 h => ?_
   obtain ⟨b8, o9, hi7, -⟩ := (H.ro 0 rfl).ix hx6
   refine st (v := (pt b8 o9)) (rv_ix Try.underlying24 ti3 rfl rfl hi7) ?_
   have hc10 := ((H.ro 0 rfl).at hx6 hi7).int
   refine st (v := (I x5)) (rv_load1 Try.underlying3 rfl rfl hc10) (sa (I x5) rfl (w_end (q_then (c_seq ?_))))
   obtain ⟨o11, hj, h'⟩ := bind_some h
   clear h
   refine c_cut (fun e a w => e = .normal ∧ ∃ (ρ : Nat → Value) (σ : St), a = fr 18 (updL ρ [(5, (Sl Ad Ac Ae)), (6, (I (Ac.length : Int))), (7, (I s2)), (16, (B o11))]) ∧ w = σ.w ∧ Hp S0 σ0 σ [Ch.ro 0 (Sl Ad Ac Ae) Ac]) ?_ ?_
   ·clear h'
    rename _ = some o11 => h
    refine rg (sm (I x5) rfl (st (v := (B (decide (x5 < (-100))))) (rv_lss (a := x5) (b := (-100)) rfl rfl) (sm (B (decide (x5 < (-100)))) rfl ?_)))
    rcases Bool.eq_false_or_eq_true (decide (x5 < (-100))) with hb12 | hb12
    ·replace h := bif_t hb12 h
     refine st_skip (congrArg some hb12) (st_skip (congrArg some hb12) (st (v := (B true)) (rv_pick_t (congrArg B hb12) rfl) (w_end ?_)))
     obtain rfl := sj h
     exact ⟨rfl, _, σ3, fr_join ⟨rfl, rfl, rfl, rfl, trivial⟩, rfl, H.sel' [0] rfl rfl⟩
    ·replace h := bif_f hb12 h
     refine st_g (v := (I x5)) (congrArg some hb12) (rv_move rfl) (st_g (v := (B (decide (100 < x5)))) (congrArg some hb12) (rv_gtr (a := x5) (b := 100) rfl rfl) (st (v := (B (decide (100 < x5)))) (rv_pick_f (congrArg B hb12) rfl) (w_end ?_)))
     obtain rfl := sj h
     exact ⟨rfl, _, σ3, fr_join ⟨rfl, rfl, rfl, rfl, trivial⟩, rfl, H.sel' [0] rfl rfl⟩
   ·clear hj
    have h := h'
    clear h' H
    rintro e a w ⟨rfl, ρ, σ13, rfl, rfl, H⟩
    refine q_then ?_
    refine cd_cond o11 rfl (fun hb14 => ?_) (fun hb14 => ?_)
    ·replace h := bif_t hb14 h
     refine c_seq (rg (sa (B false) rfl (w_end (q_then (c_ret (q_blk_r (q_then_r (q_then_r (q_blk_r ?_)))))))))
     obtain rfl := sj h
     obtain rfl := hres _ rfl
     exact .inr (⟨_, rfl, rfl, _, σ13, fr_join ⟨rfl, trivial⟩, rfl, H.sel' [] rfl rfl⟩)
    ·replace h := bif_f hb14 h
     refine c_skip (q_blk (q_then (rg (st (v := (I (w64 (s2 + 1)))) (rv_add (a := s2) (b := 1) rfl rfl) (sm (I (w64 (s2 + 1))) rfl (w_end (q_then ?_)))))))
     obtain rfl := sj h
     exact ⟨_, rfl, _, σ13, fr_join ⟨rfl, rfl, rfl, trivial⟩, rfl, H.sel' [0] rfl rfl⟩
  ·replace h := bif_f hb4 h
   refine c_exit (q_then_x (q_then_x (q_blk_hit ?_)))
   obtain rfl := sj h
   obtain rfl := hres _ rfl
   exact .inl ⟨_, rfl, rfl, _, σ3, fr_join trivial, rfl, H.sel' [] rfl rfl⟩
 ·clear hj
  have h := h'
  clear h' H
  rintro e a w (⟨t15, rfl, rfl, ρ, σ16, rfl, rfl, H⟩ | ⟨t17, rfl, rfl, ρ, σ18, rfl, rfl, H⟩)
  ·replace h := selim_l h
   refine q_then (c_seq (rg (sa (B true) rfl (w_end (q_then (c_ret ?_))))))
   obtain rfl := sj h
   exact fin_ret (v := (B true)) (results_ok Try.results107 (res_tmp (v := (B true)) rfl res_nil) rfl) ⟨rfl, rfl⟩ (H.sel' [] rfl rfl)
  ·replace h := selim_r h
   refine q_then_r ?_
   obtain rfl := sj h
   exact fin_ret (v := (B t17)) (results_ok Try.results107 (res_tmp (v := (B t17)) rfl res_nil) rfl) ⟨rfl, rfl⟩ (H.sel' [] rfl rfl)

theorem c_impl_ValidVector {Af : List Int} {Ag : Option Addr} {Ah : Nat} {r : Bool} (h : M.impl_ValidVector Af = some r) :
    Cal2 Try.prog 85 [(Sl Ag Af Ah)] [Ch.ro 0 (Sl Ag Af Ah) Af] (fun n0 v L => v = (B r) ∧ L = []) := by
 refine cal2 (n := 10) Try.func85 rfl rfl rfl rfl ?_
 intro S0 σ0 n0 hn0 H
 unfold M.impl_ValidVector at h
 refine c_seq (rg (sa (B false) rfl (w_end (q_then (c_seq (rg (sm (Sl Ag Af Ah) rfl (st (v := (I (Af.length : Int))) (rv_len Try.underlying24 rfl) (st (v := (B ((Af.length : Int) == 4))) (rv_eql (a := (Af.length : Int)) (b := 4) rfl rfl) (sm (B ((Af.length : Int) == 4)) rfl ?_))))))))))
 rcases Bool.eq_false_or_eq_true ((Af.length : Int) == 4) with hb1 | hb1
 ·replace h := bif_t hb1 h
  refine st_g (v := (Sl Ag Af Ah)) (congrArg some hb1) (rv_move rfl) ?_
  revert h; refine br fun r2 hx3 h => ?_
  have hc4 := c_impl_validCoords (Ad := Ag) (Ae := Ah) hx3
  refine st_call (cx_call hc4 (ent_f hc4.fn rfl) hn0 (H.sel' [0, 0] rfl rfl : Hp S0 σ0 _ ([_] ++ _))) (wanted_yes rfl (by exact (congrArg some hb1))) ?_
  rintro _ σ5 ⟨_, ⟨rfl, rfl⟩, H, -⟩
  replace H : Hp _ _ _ [_] := H
  refine st (v := (B r2)) (rv_pick_t (congrArg B hb1) rfl) (sa (B r2) rfl (w_end (q_then (c_ret ?_))))
  obtain rfl := sj h
  exact fin_ret (v := (B r2)) (results_ok Try.results85 (res_tmp (v := (B r2)) rfl res_nil) rfl) ⟨rfl, rfl⟩ (H.sel' [] rfl rfl)
 ·replace h := bif_f hb1 h
  refine st_skip (congrArg some hb1) (st_skip (congrArg some hb1) (st (v := (B false)) (rv_pick_f (congrArg B hb1) rfl) (sa (B false) rfl (w_end (q_then (c_ret ?_))))))
  obtain rfl := sj h
  exact fin_ret (v := (B false)) (results_ok Try.results85 (res_tmp (v := (B false)) rfl res_nil) rfl) ⟨rfl, rfl⟩ (H.sel' [] rfl rfl)

theorem c_impl_validTags {Ai : Int}  {r : Bool} (h : M.impl_validTags Ai = some r) :
    Cal2 Try.prog 86 [(I Ai)] [] (fun n0 v L => v = (B r) ∧ L = []) := by
 refine cal2 (n := 9) Try.func86 rfl rfl rfl rfl ?_
 intro S0 σ0 n0 hn0 H
 unfold M.impl_validTags at h
 refine c_seq (rg (sa (B false) rfl (w_end (q_then (c_seq (rg (sm (I Ai) rfl (st (v := (B (decide (0 ≤ Ai)))) (rv_geq (a := Ai) (b := 0) rfl rfl) (sm (B (decide (0 ≤ Ai))) rfl ?_)))))))))
 rcases Bool.eq_false_or_eq_true (decide (0 ≤ Ai)) with hb1 | hb1
 ·replace h := bif_t hb1 h
  refine st_g (v := (I Ai)) (congrArg some hb1) (rv_move rfl) (st_g (v := (B (decide (Ai ≤ 15)))) (congrArg some hb1) (rv_leq (a := Ai) (b := 15) rfl rfl) (st (v := (B (decide (Ai ≤ 15)))) (rv_pick_t (congrArg B hb1) rfl) (sa (B (decide (Ai ≤ 15))) rfl (w_end (q_then (c_ret ?_))))))
  obtain rfl := sj h
  exact fin_ret (v := (B (decide (Ai ≤ 15)))) (results_ok Try.results86 (res_tmp (v := (B (decide (Ai ≤ 15)))) rfl res_nil) rfl) ⟨rfl, rfl⟩ (H.sel' [] rfl rfl)
 ·replace h := bif_f hb1 h
  refine st_skip (congrArg some hb1) (st_skip (congrArg some hb1) (st (v := (B false)) (rv_pick_f (congrArg B hb1) rfl) (sa (B false) rfl (w_end (q_then (c_ret ?_))))))
  obtain rfl := sj h
  exact fin_ret (v := (B false)) (results_ok Try.results86 (res_tmp (v := (B false)) rfl res_nil) rfl) ⟨rfl, rfl⟩ (H.sel' [] rfl rfl)

theorem c_impl_validItem {Aj : Int × (List Int) × Int} {Ak : Option Addr} {Am : Nat} {r : Bool} (h : M.impl_validItem Aj = some r) :
    Cal2 Try.prog 54 [(.agg #[(I Aj.1), (Sl Ak Aj.2.1 Am), (I Aj.2.2)])] [Ch.ro 0 (Sl Ak Aj.2.1 Am) Aj.2.1] (fun n0 v L => v = (B r) ∧ L = []) := by
 refine cal2 (n := 16) Try.func54 rfl rfl rfl rfl ?_
 intro S0 σ0 n0 hn0 H
 unfold M.impl_validItem at h
 refine c_seq (rg (st_ex (ex_box (cs := [(I Aj.1), (Sl Ak Aj.2.1 Am), (I Aj.2.2)]) H hn0 rfl rfl) wn ?_))
 rintro _ σ2 ⟨b1, rfl, H, -⟩
 refine sa (B false) rfl (w_end (q_then (c_seq (rg (st (v := (pt b1 0)) (rv_fieldAddr (off := 0) (ft := 3) Try.underlying41 rfl ti3 rfl rfl) ?_)))))
 have hc3 := H.cell (u := (I Aj.1)) (o' := 0) 0 0 rfl rfl rfl
 refine st (v := (I Aj.1)) (rv_load1 Try.underlying3 rfl rfl hc3) ?_
 revert h; refine br fun r4 hx5 h => ?_
 have hc6 := c_impl_validKey hx5
 refine st_call (cx_call hc6 (ent_f hc6.fn rfl) hn0 (H.sel' [0, 1] rfl rfl : Hp S0 σ0 _ ([] ++ _))) wn ?_
 rintro _ σ7 ⟨_, ⟨rfl, rfl⟩, H, -⟩
 replace H : Hp _ _ _ [_, _] := H
 refine sm (B r4) rfl ?_
 rcases Bool.eq_false_or_eq_true r4 with hb8 | hb8
 ·replace h := bif_t hb8 h
  refine st_g (v := (pt b1 1)) (congrArg some hb8) (rv_fieldAddr (off := 1) (ft := 24) Try.underlying41 rfl ti24 rfl rfl) ?_
  have hc9 := H.cell (u := (Sl Ak Aj.2.1 Am)) (o' := 1) 0 1 rfl rfl rfl
  refine st_g (v := (Sl Ak Aj.2.1 Am)) (congrArg some hb8) (rv_load1 Try.underlying24 rfl rfl hc9) ?_
  revert h; refine br fun r10 hx11 h => ?_
  have hc12 := c_impl_ValidVector (Ag := Ak) (Ah := Am) hx11
  refine st_call (cx_call hc12 (ent_f hc12.fn rfl) hn0 (H.sel' [1, 0, 1] rfl rfl : Hp S0 σ0 _ ([_] ++ _))) (wanted_yes rfl (by exact (congrArg some hb8))) ?_
  rintro _ σ13 ⟨_, ⟨rfl, rfl⟩, H, -⟩
  replace H : Hp _ _ _ [_, _] := H
  refine st (v := (B r10)) (rv_pick_t (congrArg B hb8) rfl) (sm (B r10) rfl ?_)
  rcases Bool.eq_false_or_eq_true r10 with hb14 | hb14
  ·replace h := bif_t hb14 h
   refine st_g (v := (pt b1 2)) (congrArg some hb14) (rv_fieldAddr (off := 2) (ft := 3) Try.underlying41 rfl ti3 rfl rfl) ?_
   have hc15 := H.cell (u := (I Aj.2.2)) (o' := 2) 0 2 rfl rfl rfl
   refine st_g (v := (I Aj.2.2)) (congrArg some hb14) (rv_load1 Try.underlying3 rfl rfl hc15) ?_
   revert h; refine br fun r16 hx17 h => ?_
   have hc18 := c_impl_validTags hx17
   refine st_call (cx_call hc18 (ent_f hc18.fn rfl) hn0 (H.sel' [0, 1] rfl rfl : Hp S0 σ0 _ ([] ++ _))) (wanted_yes rfl (by exact (congrArg some hb14))) ?_
   rintro _ σ19 ⟨_, ⟨rfl, rfl⟩, H, -⟩
   replace H : Hp _ _ _ [_, _] := H
   refine st (v := (B r16)) (rv_pick_t (congrArg B hb14) rfl) (sa (B r16) rfl (w_end (q_then (c_ret ?_))))
   obtain rfl := sj h
   exact fin_ret (v := (B r16)) (results_ok Try.results54 (res_tmp (v := (B r16)) rfl res_nil) rfl) ⟨rfl, rfl⟩ (H.sel' [] rfl rfl)
  ·replace h := bif_f hb14 h
   refine st_skip (congrArg some hb14) (st_skip (congrArg some hb14) (st_skip (congrArg some hb14) (st (v := (B false)) (rv_pick_f (congrArg B hb14) rfl) (sa (B false) rfl (w_end (q_then (c_ret ?_)))))))
   obtain rfl := sj h
   exact fin_ret (v := (B false)) (results_ok Try.results54 (res_tmp (v := (B false)) rfl res_nil) rfl) ⟨rfl, rfl⟩ (H.sel' [] rfl rfl)
 ·replace h := bif_f hb8 h
  refine st_skip (congrArg some hb8) (st_skip (congrArg some hb8) (st_skip (congrArg some hb8) (st (v := (B false)) (rv_pick_f (congrArg B hb8) rfl) (sm (B false) rfl (st_skip rfl (st_skip rfl (st_skip rfl (st (v := (B false)) (rv_pick_f rfl rfl) (sa (B false) rfl (w_end (q_then ?_)))))))))))
  refine c_ret ?_
  obtain rfl := sj h
  exact fin_ret (v := (B false)) (results_ok Try.results54 (res_tmp (v := (B false)) rfl res_nil) rfl) ⟨rfl, rfl⟩ (H.sel' [] rfl rfl)

theorem c_impl_ValidStore {Ao : List (Int × (List Int) × Int)} {Ap : Option Addr} {Aq : Nat} {r : Bool} (h : M.impl_ValidStore Ao = some r) :
    Cal2 Try.prog 24 [(Sl Ap Ao Aq)] [Ch.ro 0 (Sl Ap Ao Aq) Ao] (fun n0 v L => v = (B r) ∧ L = []) := by
 refine cal2 (n := 27) Try.func24 rfl rfl rfl rfl ?_
 intro S0 σ0 n0 hn0 H
 unfold M.impl_ValidStore at h
 refine c_seq (rg (sa (B false) rfl (w_end (q_then (c_seq (c_seq (rg (sm (Sl Ap Ao Aq) rfl (st (v := (I (Ao.length : Int))) (rv_len Try.underlying33 rfl) (st (v := (B (decide (16 < (Ao.length : Int))))) (rv_gtr (a := (Ao.length : Int)) (b := 16) rfl rfl) (w_end ?_)))))))))))
 refine q_then ?_
 refine cd_cond (decide (16 < (Ao.length : Int))) rfl (fun hb1 => ?_) (fun hb1 => ?_)
 ·replace h := bif_t hb1 h
  refine c_seq (rg (sa (B false) rfl (w_end (q_then (c_ret (q_then_r ?_))))))
  obtain rfl := sj h
  exact fin_ret (v := (B false)) (results_ok Try.results24 (res_tmp (v := (B false)) rfl res_nil) rfl) ⟨rfl, rfl⟩ (H.sel' [] rfl rfl)
 ·replace h := bif_f hb1 h
  refine c_skip (q_then (c_seq (rg (sa (I 0) rfl (w_end (q_then (c_seq (c_seq (rg (sm (Sl Ap Ao Aq) rfl (st (v := (I (Ao.length : Int))) (rv_len Try.underlying33 rfl) ?_)))))))))))
  refine sm (I 0) rfl (w_end (q_then ?_))
  obtain ⟨o2, hj, h'⟩ := bind_some h
  clear h
  refine c_cut (fun e a w => (∃ t, o2 = (.inl t) ∧ e = .normal ∧ ∃ (ρ : Nat → Value) (σ : St), a = fr 27 (updL ρ []) ∧ w = σ.w ∧ Hp S0 σ0 σ []) ∨ (∃ t, o2 = (.inr t) ∧ e = .ret ∧ ∃ (ρ : Nat → Value) (σ : St), a = fr 27 (updL ρ [(2, (B t))]) ∧ w = σ.w ∧ Hp S0 σ0 σ [])) ?_ ?_
  ·clear h'
   rename _ = some o2 => h
   refine c_blk (wp_loopM _ h (fun s3 a w => ∃ (ρ : Nat → Value) (σ : St), a = fr 27 (updL ρ [(3, (I s3.1)), (9, (Sl Ap Ao Aq)), (10, (I (Ao.length : Int))), (11, (I s3.2))]) ∧ w = σ.w ∧ Hp S0 σ0 σ [Ch.ro 0 (Sl Ap Ao Aq) Ao]) ⟨_, σ0, fr_join ⟨rfl, rfl, rfl, rfl, trivial⟩, rfl, H.sel' [0] rfl rfl⟩ ?_)
   clear h H
   rintro s3 a w o ⟨ρ, σ4, rfl, rfl, H⟩ h hres
   refine c_seq (rg (st (v := (B (decide (s3.2 < (Ao.length : Int))))) (rv_lss (a := s3.2) (b := (Ao.length : Int)) rfl rfl) (w_end (q_then (c_seq ?_)))))
   refine cd_cond (decide (s3.2 < (Ao.length : Int))) rfl (fun hb5 => ?_) (fun hb5 => ?_)
   ·replace h := bif_t hb5 h
    refine c_skip (q_then (c_seq (c_blk (c_seq (rg ?_)))))
    revert h; refine br fun x6 hx7 h => ?_
    obtain ⟨b9, o10, hi8, -⟩ := (H.ro 0 rfl).ix hx7
    refine st (v := (pt b9 o10)) (rv_ix Try.underlying33 ti41 rfl rfl hi8) ?_
    obtain ⟨_, ⟨_, _, rfl, rfl, ⟨_, _, rfl, ⟨_, rfl, hR15⟩, rfl⟩⟩, hl11, hc12⟩ := ((H.ro 0 rfl).at hx7 hi8).cells
    obtain ⟨a13, c14, rfl⟩ := hR15.isSl
    replace H := H.add (d := Ch.ro 0 (Sl a13 x6.2.1 c14) x6.2.1) hR15 (fun _ h => h)
    clear hR15
    refine st (v := (.agg #[(I x6.1), (Sl a13 x6.2.1 c14), (I x6.2.2)])) (rv_load Try.underlying41 rfl ti41 rfl hl11 hc12) (st_ex (ex_alloc (cs := [(I 0), (.slice none 0 0), (I 0)]) H hn0 ti41 rfl) wn ?_)
    rintro _ σ17 ⟨b16, rfl, H, -⟩
    refine st_exS (ex_store_box (k := 0) (cs := [(I 0), (.slice none 0 0), (I 0)]) (vs := [(I x6.1), (Sl a13 x6.2.1 c14), (I x6.2.2)]) (cs' := [(I x6.1), (Sl a13 x6.2.1 c14), (I x6.2.2)]) H (i := 0) rfl ti41 rfl rfl rfl rfl rfl (Nat.le_of_ble_eq_true rfl) (by simp [plain]) rfl) wn ?_
    rintro σ18 ⟨H, -⟩
    refine w_end (q_then (c_seq (c_seq ?_)))
    obtain ⟨o19, hj, h'⟩ := bind_some h
    clear h
    refine c_cut (fun e a w => e = .normal ∧ ∃ (ρ : Nat → Value) (σ : St), a = fr 27 (updL ρ [(5, (pt b16 0)), (9, (Sl Ap Ao Aq)), (10, (I (Ao.length : Int))), (11, (I s3.2)), (23, (B o19))]) ∧ w = σ.w ∧ Hp S0 σ0 σ [Ch.ro 0 (Sl a13 x6.2.1 c14) x6.2.1, Ch.bx n0 b16 0 [(I x6.1), (Sl a13 x6.2.1 c14), (I x6.2.2)] [] [], Ch.ro 0 (Sl Ap Ao Aq) Ao]) ?_ ?_
    ·clear h'
     rename _ = some o19 => h
     refine rg ?_
     have hc20 := H.cells 0 rfl
     refine st (v := (.agg #[(I x6.1), (Sl a13 x6.2.1 c14), (I x6.2.2)])) (rv_load (cs := [(I x6.1), (Sl a13 x6.2.1 c14), (I x6.2.2)]) Try.underlying41 rfl ti41 rfl rfl hc20) ?_
     revert h; refine br fun r21 hx22 h => ?_
     have hc23 := c_impl_validItem (Ak := a13) (Am := c14) hx22
     refine st_call (cx_call hc23 (ent_f hc23.fn rfl) hn0 (H.sel' [1, 0, 1, 2] rfl rfl : Hp S0 σ0 _ ([_] ++ _))) wn ?_
     rintro _ σ24 ⟨_, ⟨rfl, rfl⟩, H, -⟩
     replace H : Hp _ _ _ [_, _, _] := H
     refine st (v := (B (!r21))) (rv_not rfl) (sm (B (!r21)) rfl ?_)
     rcases Bool.eq_false_or_eq_true (!r21) with hb25 | hb25
     ·replace h := bif_t hb25 h
      refine st_skip (congrArg some hb25) (st_skip (congrArg some hb25) (st_skip (congrArg some hb25) (st_skip (congrArg some hb25) (st (v := (B true)) (rv_pick_t (congrArg B hb25) rfl) (w_end ?_)))))
      obtain rfl := sj h
      exact ⟨rfl, _, σ24, fr_join ⟨rfl, rfl, rfl, rfl, rfl, trivial⟩, rfl, H.sel' [1, 0, 2] rfl rfl⟩
     ·replace h := bif_f hb25 h
      refine st_g (v := (pt b16 0)) (congrArg some hb25) (rv_fieldAddr (off := 0) (ft := 3) Try.underlying41 rfl ti3 rfl rfl) ?_
      have hc26 := H.cell (u := (I x6.1)) (o' := 0) 0 0 rfl rfl rfl
      refine st_g (v := (I x6.1)) (congrArg some hb25) (rv_load1 Try.underlying3 rfl rfl hc26) (st_g (v := (I s3.1)) (congrArg some hb25) (rv_move rfl) (st_g (v := (B (decide (x6.1 ≤ s3.1)))) (congrArg some hb25) (rv_leq (a := x6.1) (b := s3.1) rfl rfl) (st (v := (B (decide (x6.1 ≤ s3.1)))) (rv_pick_f (congrArg B hb25) rfl) (w_end ?_))))
      obtain rfl := sj h
      exact ⟨rfl, _, σ24, fr_join ⟨rfl, rfl, rfl, rfl, rfl, trivial⟩, rfl, H.sel' [1, 0, 2] rfl rfl⟩
    ·clear hj
     have h := h'
     clear h' H
     rintro e a w ⟨rfl, ρ, σ27, rfl, rfl, H⟩
     refine q_then ?_
     refine cd_cond o19 rfl (fun hb28 => ?_) (fun hb28 => ?_)
     ·replace h := bif_t hb28 h
      refine c_seq (rg (sa (B false) rfl (w_end (q_then (c_ret (q_then_r (q_blk_r (q_then_r (q_then_r (q_blk_r ?_))))))))))
      obtain rfl := sj h
      obtain rfl := hres _ rfl
      exact .inr (⟨_, rfl, rfl, _, σ27, fr_join ⟨rfl, trivial⟩, rfl, H.sel' [] rfl rfl⟩)
     ·replace h := bif_f hb28 h
      refine c_skip (q_then (rg (st (v := (pt b16 0)) (rv_fieldAddr (off := 0) (ft := 3) Try.underlying41 rfl ti3 rfl rfl) ?_)))
      have hc29 := H.cell (u := (I x6.1)) (o' := 0) 1 0 rfl rfl rfl
      refine st (v := (I x6.1)) (rv_load1 Try.underlying3 rfl rfl hc29) (sa (I x6.1) rfl (w_end (q_blk (q_then (rg (st (v := (I (w64 (s3.2 + 1)))) (rv_add (a := s3.2) (b := 1) rfl rfl) (sm (I (w64 (s3.2 + 1))) rfl (w_end (q_then ?_)))))))))
      obtain rfl := sj h
      exact ⟨_, rfl, _, σ27, fr_join ⟨rfl, rfl, rfl, rfl, trivial⟩, rfl, H.sel' [2] rfl rfl⟩
   ·replace h := bif_f hb5 h
    refine c_exit (q_then_x (q_then_x (q_blk_hit ?_)))
    obtain rfl := sj h
    obtain rfl := hres _ rfl
    exact .inl ⟨_, rfl, rfl, _, σ4, fr_join trivial, rfl, H.sel' [] rfl rfl⟩
  ·clear hj
   have h := h'
   clear h' H
   rintro e a w (⟨t30, rfl, rfl, ρ, σ31, rfl, rfl, H⟩ | ⟨t32, rfl, rfl, ρ, σ33, rfl, rfl, H⟩)
   ·replace h := selim_l h
    refine q_then (c_seq (rg (sa (B true) rfl (w_end (q_then (c_ret ?_))))))
    obtain rfl := sj h
    exact fin_ret (v := (B true)) (results_ok Try.results24 (res_tmp (v := (B true)) rfl res_nil) rfl) ⟨rfl, rfl⟩ (H.sel' [] rfl rfl)
   ·replace h := selim_r h
    refine q_then_r ?_
    obtain rfl := sj h
    exact fin_ret (v := (B t32)) (results_ok Try.results24 (res_tmp (v := (B t32)) rfl res_nil) rfl) ⟨rfl, rfl⟩ (H.sel' [] rfl rfl)

theorem c_impl_onlyKey {Aj : Int × (List Int) × Int} {Ak : Option Addr} {Am : Nat} {r : Bool} (h : M.impl_onlyKey Aj = some r) :
    Cal2 Try.prog 102 [(.agg #[(I Aj.1), (Sl Ak Aj.2.1 Am), (I Aj.2.2)])] [Ch.ro 0 (Sl Ak Aj.2.1 Am) Aj.2.1] (fun n0 v L => v = (B r) ∧ L = []) := by
 refine cal2 (n := 17) Try.func102 rfl rfl rfl rfl ?_
 intro S0 σ0 n0 hn0 H
 unfold M.impl_onlyKey at h
 refine c_seq (rg (st_ex (ex_box (cs := [(I Aj.1), (Sl Ak Aj.2.1 Am), (I Aj.2.2)]) H hn0 rfl rfl) wn ?_))
 rintro _ σ2 ⟨b1, rfl, H, -⟩
 refine sa (B false) rfl (w_end (q_then (c_seq (rg (st (v := (pt b1 0)) (rv_fieldAddr (off := 0) (ft := 3) Try.underlying41 rfl ti3 rfl rfl) ?_)))))
 have hc3 := H.cell (u := (I Aj.1)) (o' := 0) 0 0 rfl rfl rfl
 refine st (v := (I Aj.1)) (rv_load1 Try.underlying3 rfl rfl hc3) ?_
 revert h; refine br fun r4 hx5 h => ?_
 have hc6 := c_impl_validKey hx5
 refine st_call (cx_call hc6 (ent_f hc6.fn rfl) hn0 (H.sel' [0, 1] rfl rfl : Hp S0 σ0 _ ([] ++ _))) wn ?_
 rintro _ σ7 ⟨_, ⟨rfl, rfl⟩, H, -⟩
 replace H : Hp _ _ _ [_, _] := H
 refine sm (B r4) rfl ?_
 rcases Bool.eq_false_or_eq_true r4 with hb8 | hb8
 ·replace h := bif_t hb8 h
  refine st_g (v := (pt b1 1)) (congrArg some hb8) (rv_fieldAddr (off := 1) (ft := 24) Try.underlying41 rfl ti24 rfl rfl) ?_
  have hc9 := H.cell (u := (Sl Ak Aj.2.1 Am)) (o' := 1) 0 1 rfl rfl rfl
  refine st_g (v := (Sl Ak Aj.2.1 Am)) (congrArg some hb8) (rv_load1 Try.underlying24 rfl rfl hc9) (st_g (v := (I (Aj.2.1.length : Int))) (congrArg some hb8) (rv_len Try.underlying24 rfl) (st_g (v := (B ((Aj.2.1.length : Int) == 0))) (congrArg some hb8) (rv_eql (a := (Aj.2.1.length : Int)) (b := 0) rfl rfl) (st (v := (B ((Aj.2.1.length : Int) == 0))) (rv_pick_t (congrArg B hb8) rfl) (sm (B ((Aj.2.1.length : Int) == 0)) rfl ?_))))
  rcases Bool.eq_false_or_eq_true ((Aj.2.1.length : Int) == 0) with hb10 | hb10
  ·replace h := bif_t hb10 h
   refine st_g (v := (pt b1 2)) (congrArg some hb10) (rv_fieldAddr (off := 2) (ft := 3) Try.underlying41 rfl ti3 rfl rfl) ?_
   have hc11 := H.cell (u := (I Aj.2.2)) (o' := 2) 0 2 rfl rfl rfl
   refine st_g (v := (I Aj.2.2)) (congrArg some hb10) (rv_load1 Try.underlying3 rfl rfl hc11) (st_g (v := (B (Aj.2.2 == 0))) (congrArg some hb10) (rv_eql (a := Aj.2.2) (b := 0) rfl rfl) (st (v := (B (Aj.2.2 == 0))) (rv_pick_t (congrArg B hb10) rfl) (sa (B (Aj.2.2 == 0)) rfl (w_end (q_then (c_ret ?_))))))
   obtain rfl := sj h
   exact fin_ret (v := (B (Aj.2.2 == 0))) (results_ok Try.results102 (res_tmp (v := (B (Aj.2.2 == 0))) rfl res_nil) rfl) ⟨rfl, rfl⟩ (H.sel' [] rfl rfl)
  ·replace h := bif_f hb10 h
   refine st_skip (congrArg some hb10) (st_skip (congrArg some hb10) (st_skip (congrArg some hb10) (st (v := (B false)) (rv_pick_f (congrArg B hb10) rfl) (sa (B false) rfl (w_end (q_then (c_ret ?_)))))))
   obtain rfl := sj h
   exact fin_ret (v := (B false)) (results_ok Try.results102 (res_tmp (v := (B false)) rfl res_nil) rfl) ⟨rfl, rfl⟩ (H.sel' [] rfl rfl)
 ·replace h := bif_f hb8 h
  refine st_skip (congrArg some hb8) (st_skip (congrArg some hb8) (st_skip (congrArg some hb8) (st_skip (congrArg some hb8) (st (v := (B false)) (rv_pick_f (congrArg B hb8) rfl) (sm (B false) rfl (st_skip rfl (st_skip rfl (st_skip rfl (st (v := (B false)) (rv_pick_f rfl rfl) (sa (B false) rfl (w_end ?_)))))))))))
  refine q_then (c_ret ?_)
  obtain rfl := sj h
  exact fin_ret (v := (B false)) (results_ok Try.results102 (res_tmp (v := (B false)) rfl res_nil) rfl) ⟨rfl, rfl⟩ (H.sel' [] rfl rfl)

theorem c_impl_changeOf {Ar : Int × (Int × (List Int) × Int)} {As : Option Addr} {Au : Nat} {r : (If2 Int ((Int × (List Int) × Int))) × Bool} (h : M.impl_changeOf Ar = some r) :
    Cal2 Try.prog 77 [(.agg #[(I Ar.1), (I Ar.2.1), (Sl As Ar.2.2.1 Au), (I Ar.2.2.2)])] [Ch.ro 0 (Sl As Ar.2.2.1 Au) Ar.2.2.1] (fun n0 v L => ∃ (az1 : Option Addr), ∃ (cz2 : Nat), v = (.tuple #[(ifs2 r.1.1 (.iface 94 (.agg #[(I r.1.2.1)])) (.iface 98 (.agg #[(I r.1.2.2.1), (Sl az1 r.1.2.2.2.1 cz2), (I r.1.2.2.2.2)]))), (B r.2)]) ∧ L = [Ch.ro 0 (Sl az1 r.1.2.2.2.1 cz2) r.1.2.2.2.1]) := by
 refine cal2 (n := 31) Try.func77 rfl rfl rfl rfl ?_
 intro S0 σ0 n0 hn0 H
 unfold M.impl_changeOf at h
 refine c_seq (rg (st_ex (ex_box (cs := [(I Ar.1), (I Ar.2.1), (Sl As Ar.2.2.1 Au), (I Ar.2.2.2)]) H hn0 rfl rfl) wn ?_))
 rintro _ σ2 ⟨b1, rfl, H, -⟩
 refine sa (.nilIface) rfl (sa (B false) rfl (w_end (q_then (c_seq (c_blk (c_seq ?_))))))
 obtain ⟨o3, hj, h'⟩ := bind_some h
 clear h
 refine c_cut (fun e a w => e = .normal ∧ ∃ (ρ : Nat → Value) (σ : St), a = fr 31 (updL ρ [(1, (pt b1 0)), (4, (B o3))]) ∧ w = σ.w ∧ Hp S0 σ0 σ [Ch.ro 0 (Sl As Ar.2.2.1 Au) Ar.2.2.1, Ch.bx n0 b1 0 [(I Ar.1), (I Ar.2.1), (Sl As Ar.2.2.1 Au), (I Ar.2.2.2)] [] []]) ?_ ?_
 ·clear h'
  rename _ = some o3 => h
  refine rg (st (v := (pt b1 0)) (rv_fieldAddr (off := 0) (ft := 3) Try.underlying43 rfl ti3 rfl rfl) ?_)
  have hc4 := H.cell (u := (I Ar.1)) (o' := 0) 0 0 rfl rfl rfl
  refine st (v := (I Ar.1)) (rv_load1 Try.underlying3 rfl rfl hc4) (st (v := (B (Ar.1 == 1))) (rv_eql (a := Ar.1) (b := 1) rfl rfl) (sm (B (Ar.1 == 1)) rfl ?_))
  rcases Bool.eq_false_or_eq_true (Ar.1 == 1) with hb5 | hb5
  ·replace h := bif_t hb5 h
   refine st_g (v := (pt b1 1)) (congrArg some hb5) (rv_fieldAddr (off := 1) (ft := 41) Try.underlying43 rfl ti41 rfl rfl) ?_
   have hc6 := H.part (us := [(I Ar.2.1), (Sl As Ar.2.2.1 Au), (I Ar.2.2.2)]) (o' := 1) 0 1 3 rfl rfl rfl rfl
   refine st_g (v := (.agg #[(I Ar.2.1), (Sl As Ar.2.2.1 Au), (I Ar.2.2.2)])) (congrArg some hb5) (rv_load (cs := [(I Ar.2.1), (Sl As Ar.2.2.1 Au), (I Ar.2.2.2)]) Try.underlying41 rfl ti41 rfl rfl hc6) ?_
   revert h; refine br fun r7 hx8 h => ?_
   have hc9 := c_impl_validItem (Ak := As) (Am := Au) hx8
   refine st_call (cx_call hc9 (ent_f hc9.fn rfl) hn0 (H.sel' [1, 0, 1] rfl rfl : Hp S0 σ0 _ ([_] ++ _))) (wanted_yes rfl (by exact (congrArg some hb5))) ?_
   rintro _ σ10 ⟨_, ⟨rfl, rfl⟩, H, -⟩
   replace H : Hp _ _ _ [_, _] := H
   refine st (v := (B r7)) (rv_pick_t (congrArg B hb5) rfl) (sa (B r7) rfl (w_end ?_))
   obtain rfl := sj h
   exact ⟨rfl, _, σ10, fr_join ⟨rfl, rfl, trivial⟩, rfl, H.sel' [1, 0] rfl rfl⟩
  ·replace h := bif_f hb5 h
   refine st_skip (congrArg some hb5) (st_skip (congrArg some hb5) (st_skip (congrArg some hb5) (st (v := (B false)) (rv_pick_f (congrArg B hb5) rfl) (sa (B false) rfl (w_end ?_)))))
   obtain rfl := sj h
   exact ⟨rfl, _, σ2, fr_join ⟨rfl, rfl, trivial⟩, rfl, H.sel' [1, 0] rfl rfl⟩
 ·clear hj
  have h := h'
  clear h' H
  rintro e a w ⟨rfl, ρ, σ11, rfl, rfl, H⟩
  refine q_then ?_
  refine cd_cond o3 rfl (fun hb12 => ?_) (fun hb12 => ?_)
  ·replace h := bif_t hb12 h
   refine c_seq (rg (st (v := (pt b1 1)) (rv_fieldAddr (off := 1) (ft := 41) Try.underlying43 rfl ti41 rfl rfl) ?_))
   have hc13 := H.part (us := [(I Ar.2.1), (Sl As Ar.2.2.1 Au), (I Ar.2.2.2)]) (o' := 1) 1 1 3 rfl rfl rfl rfl
   refine st (v := (.agg #[(I Ar.2.1), (Sl As Ar.2.2.1 Au), (I Ar.2.2.2)])) (rv_load (cs := [(I Ar.2.1), (Sl As Ar.2.2.1 Au), (I Ar.2.2.2)]) Try.underlying41 rfl ti41 rfl rfl hc13) ?_
   refine st (v := (.agg #[(I Ar.2.1), (Sl As Ar.2.2.1 Au), (I Ar.2.2.2)])) (rv_build (ps := [(0, (.agg #[(I Ar.2.1), (Sl As Ar.2.2.1 Au), (I Ar.2.2.2)]))]) Try.underlying98 ti98 (bp98 Try.underlying98) rfl (by kernel_rfl)) ?_
   refine st (v := (.iface 98 (.agg #[(I Ar.2.1), (Sl As Ar.2.2.1 Au), (I Ar.2.2.2)]))) (rv_makeInterface Try.underlying98 rfl rfl) (sa (.iface 98 (.agg #[(I Ar.2.1), (Sl As Ar.2.2.1 Au), (I Ar.2.2.2)])) rfl (sa (B true) rfl (w_end (q_then (c_ret (q_blk_r (q_then_r ?_)))))))
   obtain rfl := sj h
   exact fin_ret (v := (.tuple #[(ifs2 2 (.iface 94 (.agg #[(I 0)])) (.iface 98 (.agg #[(I Ar.2.1), (Sl As Ar.2.2.1 Au), (I Ar.2.2.2)]))), (B true)])) (results_ok Try.results77 (res_tmp (v := (ifs2 2 (.iface 94 (.agg #[(I 0)])) (.iface 98 (.agg #[(I Ar.2.1), (Sl As Ar.2.2.1 Au), (I Ar.2.2.2)])))) rfl (res_tmp (v := (B true)) rfl res_nil)) rfl) ⟨As, Au, rfl, rfl⟩ (H.sel' [0] rfl rfl)
  ·replace h := bif_f hb12 h
   refine c_seq ?_
   obtain ⟨o14, hj, h'⟩ := bind_some h
   clear h
   refine c_cut (fun e a w => e = .normal ∧ ∃ (ρ : Nat → Value) (σ : St), a = fr 31 (updL ρ [(1, (pt b1 0)), (17, (B o14))]) ∧ w = σ.w ∧ Hp S0 σ0 σ [Ch.ro 0 (Sl As Ar.2.2.1 Au) Ar.2.2.1, Ch.bx n0 b1 0 [(I Ar.1), (I Ar.2.1), (Sl As Ar.2.2.1 Au), (I Ar.2.2.2)] [] []]) ?_ ?_
   ·clear h'
    rename _ = some o14 => h
    refine rg (st (v := (pt b1 0)) (rv_fieldAddr (off := 0) (ft := 3) Try.underlying43 rfl ti3 rfl rfl) ?_)
    have hc15 := H.cell (u := (I Ar.1)) (o' := 0) 1 0 rfl rfl rfl
    refine st (v := (I Ar.1)) (rv_load1 Try.underlying3 rfl rfl hc15) (st (v := (B (Ar.1 == 2))) (rv_eql (a := Ar.1) (b := 2) rfl rfl) (sm (B (Ar.1 == 2)) rfl ?_))
    rcases Bool.eq_false_or_eq_true (Ar.1 == 2) with hb16 | hb16
    ·replace h := bif_t hb16 h
     refine st_g (v := (pt b1 1)) (congrArg some hb16) (rv_fieldAddr (off := 1) (ft := 41) Try.underlying43 rfl ti41 rfl rfl) ?_
     have hc17 := H.part (us := [(I Ar.2.1), (Sl As Ar.2.2.1 Au), (I Ar.2.2.2)]) (o' := 1) 1 1 3 rfl rfl rfl rfl
     refine st_g (v := (.agg #[(I Ar.2.1), (Sl As Ar.2.2.1 Au), (I Ar.2.2.2)])) (congrArg some hb16) (rv_load (cs := [(I Ar.2.1), (Sl As Ar.2.2.1 Au), (I Ar.2.2.2)]) Try.underlying41 rfl ti41 rfl rfl hc17) ?_
     revert h; refine br fun r18 hx19 h => ?_
     have hc20 := c_impl_onlyKey (Ak := As) (Am := Au) hx19
     refine st_call (cx_call hc20 (ent_f hc20.fn rfl) hn0 (H.sel' [0, 0, 1] rfl rfl : Hp S0 σ0 _ ([_] ++ _))) (wanted_yes rfl (by exact (congrArg some hb16))) ?_
     rintro _ σ21 ⟨_, ⟨rfl, rfl⟩, H, -⟩
     replace H : Hp _ _ _ [_, _] := H
     refine st (v := (B r18)) (rv_pick_t (congrArg B hb16) rfl) (sa (B r18) rfl (w_end ?_))
     obtain rfl := sj h
     exact ⟨rfl, _, σ21, fr_join ⟨rfl, rfl, trivial⟩, rfl, H.sel' [0, 1] rfl rfl⟩
    ·replace h := bif_f hb16 h
     refine st_skip (congrArg some hb16) (st_skip (congrArg some hb16) (st_skip (congrArg some hb16) (st (v := (B false)) (rv_pick_f (congrArg B hb16) rfl) (sa (B false) rfl (w_end ?_)))))
     obtain rfl := sj h
     exact ⟨rfl, _, σ11, fr_join ⟨rfl, rfl, trivial⟩, rfl, H.sel' [0, 1] rfl rfl⟩
   ·clear hj
    have h := h'
    clear h' H
    rintro e a w ⟨rfl, ρ, σ22, rfl, rfl, H⟩
    refine q_then ?_
    refine cd_cond o14 rfl (fun hb23 => ?_) (fun hb23 => ?_)
    ·replace h := bif_t hb23 h
     refine c_seq (rg (st (v := (pt b1 1)) (rv_fieldAddr (off := 1) (ft := 41) Try.underlying43 rfl ti41 rfl rfl) (st (v := (pt b1 1)) (rv_fieldAddr (off := 0) (ft := 3) Try.underlying41 rfl ti3 rfl rfl) ?_)))
     have hc24 := H.cell (u := (I Ar.2.1)) (o' := 1) 1 1 rfl rfl rfl
     refine st (v := (I Ar.2.1)) (rv_load1 Try.underlying3 rfl rfl hc24) ?_
     refine st (v := (.agg #[(I Ar.2.1)])) (rv_build (ps := [(0, (I Ar.2.1))]) Try.underlying94 ti94 (bp94 Try.underlying94) rfl (by kernel_rfl)) ?_
     refine st (v := (.iface 94 (.agg #[(I Ar.2.1)]))) (rv_makeInterface Try.underlying94 rfl rfl) (sa (.iface 94 (.agg #[(I Ar.2.1)])) rfl (sa (B true) rfl (w_end (q_then (c_ret (q_blk_r (q_then_r ?_)))))))
     replace H := H.nilRo Int 0
     obtain rfl := sj h
     exact fin_ret (v := (.tuple #[(ifs2 1 (.iface 94 (.agg #[(I Ar.2.1)])) (.iface 98 (.agg #[(I 0), (.slice none 0 0), (I 0)]))), (B true)])) (results_ok Try.results77 (res_tmp (v := (ifs2 1 (.iface 94 (.agg #[(I Ar.2.1)])) (.iface 98 (.agg #[(I 0), (.slice none 0 0), (I 0)])))) rfl (res_tmp (v := (B true)) rfl res_nil)) rfl) ⟨none, 0, rfl, rfl⟩ (H.sel' [0] rfl rfl)
    ·replace h := bif_f hb23 h
     refine c_skip (q_blk (q_then (c_seq (rg (sa (.nilIface) rfl (sa (B false) rfl (w_end (q_then (c_ret ?_)))))))))
     replace H := H.nilRo Int 0
     obtain rfl := sj h
     exact fin_ret (v := (.tuple #[(ifs2 0 (.iface 94 (.agg #[(I 0)])) (.iface 98 (.agg #[(I 0), (.slice none 0 0), (I 0)]))), (B false)])) (results_ok Try.results77 (res_tmp (v := (ifs2 0 (.iface 94 (.agg #[(I 0)])) (.iface 98 (.agg #[(I 0), (.slice none 0 0), (I 0)])))) rfl (res_tmp (v := (B false)) rfl res_nil)) rfl) ⟨none, 0, rfl, rfl⟩ (H.sel' [0] rfl rfl)

theorem c_impl_changesOf {Av : List (Int × (Int × (List Int) × Int))} {Aw : Option Addr} {Ax : Nat} {r : (List (If2 Int ((Int × (List Int) × Int)))) × Bool} (h : M.impl_changesOf Av = some r) :
    Cal2 Try.prog 44 [(Sl Aw Av Ax)] [Ch.ro 0 (Sl Aw Av Ax) Av] (fun n0 v L => ∃ (az1 : Option Addr), ∃ (cz2 : Nat), v = (.tuple #[(Sl az1 r.1 cz2), (B r.2)]) ∧ L = [Ch.own n0 0 (Sl az1 r.1 cz2) r.1]) := by
 refine cal2 (n := 35) Try.func44 rfl rfl rfl rfl ?_
 intro S0 σ0 n0 hn0 H
 unfold M.impl_changesOf at h
 refine c_seq (rg (sa (.slice none 0 0) rfl (sa (B false) rfl (w_end (q_then (c_seq (c_seq (rg (sm (Sl Aw Av Ax) rfl (st (v := (I (Av.length : Int))) (rv_len Try.underlying23 rfl) (st (v := (B (decide (32 < (Av.length : Int))))) (rv_gtr (a := (Av.length : Int)) (b := 32) rfl rfl) ?_)))))))))))
 refine w_end (q_then ?_)
 refine cd_cond (decide (32 < (Av.length : Int))) rfl (fun hb1 => ?_) (fun hb1 => ?_)
 ·replace h := bif_t hb1 h
  refine c_seq (rg (sa (.slice none 0 0) rfl (sa (B false) rfl (w_end (q_then (c_ret (q_then_r ?_)))))))
  replace H := H.nilOwn (If2 Int ((Int × (List Int) × Int))) n0 0
  obtain rfl := sj h
  exact fin_ret (v := (.tuple #[(.slice none 0 0), (B false)])) (results_ok Try.results44 (res_tmp (v := (.slice none 0 0)) rfl (res_tmp (v := (B false)) rfl res_nil)) rfl) ⟨none, 0, rfl, rfl⟩ (H.sel' [0] rfl rfl)
 ·replace h := bif_f hb1 h
  refine c_skip (q_then (c_seq (rg (sm (Sl Aw Av Ax) rfl (st (v := (I (Av.length : Int))) (rv_len Try.underlying23 rfl) ?_)))))
  revert h; refine br fun xs2 hx3 h => ?_
  refine st_ex (ex_make (el := n0) (z0 := ((If2.mk 0 0 (0, [], 0)) : If2 Int ((Int × (List Int) × Int)))) (zs := [(ifs2 0 (.iface 94 (.agg #[(I 0)])) (.iface 98 (.agg #[(I 0), (.slice none 0 0), (I 0)])))]) H hn0 Try.underlying62 ti75 rfl rfl (⟨[(I 0)], [(I 0), (.slice none 0 0), (I 0)], rfl, ⟨[(I 0)], [(.slice none 0 0), (I 0)], rfl, rfl, ⟨[(.slice none 0 0)], [(I 0)], rfl, ⟨_, rfl, RS.nil⟩, rfl⟩⟩, rfl⟩) (by decide) hx3 rfl rfl) wn ?_
  rintro _ σ7 ⟨b4, c5, rfl, ht6, H, -⟩
  replace ht6 := ht6.trans (gmake_len hx3).symm
  refine sa (Sl (some ⟨b4, 0, none⟩) xs2 c5) rfl (w_end (q_then (c_seq (c_seq (rg (sm (Sl Aw Av Ax) rfl (st (v := (I (Av.length : Int))) (rv_len Try.underlying23 rfl) (sm (I 0) rfl (w_end (q_then ?_))))))))))
  obtain ⟨o8, hj, h'⟩ := bind_some h
  clear h
  refine c_cut (fun e a w => (∃ t, o8 = (.inl t) ∧ e = .normal ∧ ∃ (ρ : Nat → Value) (σ : St), a = fr 35 (updL ρ [(4, (Sl (some ⟨b4, 0, none⟩) t c5))]) ∧ w = σ.w ∧ Hp S0 σ0 σ [Ch.own n0 0 (Sl (some ⟨b4, 0, none⟩) t c5) t] ∧ c5 = t.length ∧ t.length = xs2.length) ∨ (∃ t, o8 = (.inr t) ∧ e = .ret ∧ ∃ (ρ : Nat → Value) (σ : St) (aj1 : Option Addr) (cj2 : Nat), a = fr 35 (updL ρ [(2, (Sl aj1 t.1 cj2)), (3, (B t.2))]) ∧ w = σ.w ∧ Hp S0 σ0 σ [Ch.own n0 n0 (Sl aj1 t.1 cj2) t.1])) ?_ ?_
  ·clear h'
   rename _ = some o8 => h
   refine c_blk ?_
   replace H := H.ownLow 0 n0 0 rfl (Nat.le_refl _) (Nat.zero_le _)
   refine wp_loopM _ h (fun s9 a w => ∃ (ρ : Nat → Value) (σ : St), a = fr 35 (updL ρ [(4, (Sl (some ⟨b4, 0, none⟩) s9.1 c5)), (15, (Sl Aw Av Ax)), (16, (I (Av.length : Int))), (17, (I s9.2))]) ∧ w = σ.w ∧ Hp S0 σ0 σ [Ch.own n0 0 (Sl (some ⟨b4, 0, none⟩) s9.1 c5) s9.1, Ch.ro 0 (Sl Aw Av Ax) Av] ∧ c5 = s9.1.length ∧ s9.1.length = xs2.length) ⟨_, σ7, fr_join ⟨rfl, rfl, rfl, rfl, trivial⟩, rfl, H.sel' [0, 1] rfl rfl, ht6, rfl⟩ ?_
   clear h H
   rintro s9 a w o ⟨ρ, σ10, rfl, rfl, H, ht11, hn12⟩ h hres
   refine c_seq (rg (st (v := (B (decide (s9.2 < (Av.length : Int))))) (rv_lss (a := s9.2) (b := (Av.length : Int)) rfl rfl) (w_end (q_then (c_seq ?_)))))
   refine cd_cond (decide (s9.2 < (Av.length : Int))) rfl (fun hb13 => ?_) (fun hb13 => ?_)
   ·replace h := bif_t hb13 h
    refine c_skip (q_then (c_seq (c_blk (c_seq (rg (sm (I s9.2) rfl ?_))))))
    revert h; refine br fun x14 hx15 h => ?_
    obtain ⟨b17, o18, hi16, -⟩ := (H.ro 1 rfl).ix hx15
    refine st (v := (pt b17 o18)) (rv_ix Try.underlying23 ti43 rfl rfl hi16) ?_
    obtain ⟨_, ⟨_, _, rfl, rfl, ⟨_, _, rfl, rfl, ⟨_, _, rfl, ⟨_, rfl, hR23⟩, rfl⟩⟩⟩, hl19, hc20⟩ := ((H.ro 1 rfl).at hx15 hi16).cells
    obtain ⟨a21, c22, rfl⟩ := hR23.isSl
    replace H := H.add (d := Ch.ro 0 (Sl a21 x14.2.2.1 c22) x14.2.2.1) hR23 (fun _ h => h)
    clear hR23
    refine st (v := (.agg #[(I x14.1), (I x14.2.1), (Sl a21 x14.2.2.1 c22), (I x14.2.2.2)])) (rv_load Try.underlying43 rfl ti43 rfl hl19 hc20) (st_ex (ex_alloc (cs := [(I 0), (I 0), (.slice none 0 0), (I 0)]) H hn0 ti43 rfl) wn ?_)
    rintro _ σ25 ⟨b24, rfl, H, -⟩
    refine sa (I s9.2) rfl ?_
    refine st_exS (ex_store_box (k := 0) (cs := [(I 0), (I 0), (.slice none 0 0), (I 0)]) (vs := [(I x14.1), (I x14.2.1), (Sl a21 x14.2.2.1 c22), (I x14.2.2.2)]) (cs' := [(I x14.1), (I x14.2.1), (Sl a21 x14.2.2.1 c22), (I x14.2.2.2)]) H (i := 0) rfl ti43 rfl rfl rfl rfl rfl (Nat.le_of_ble_eq_true rfl) (by simp [plain]) rfl) wn ?_
    rintro σ26 ⟨H, -⟩
    refine w_end (q_then (c_seq (rg ?_)))
    have hc27 := H.cells 0 rfl
    refine st (v := (.agg #[(I x14.1), (I x14.2.1), (Sl a21 x14.2.2.1 c22), (I x14.2.2.2)])) (rv_load (cs := [(I x14.1), (I x14.2.1), (Sl a21 x14.2.2.1 c22), (I x14.2.2.2)]) Try.underlying43 rfl ti43 rfl rfl hc27) ?_
    revert h; refine br fun r28 hx29 h => ?_
    have hc30 := c_impl_changeOf (As := a21) (Au := c22) hx29
    refine st_call (cx_call hc30 (ent_f hc30.fn rfl) hn0 (H.sel' [1, 0, 1, 2, 3] rfl rfl : Hp S0 σ0 _ ([_] ++ _))) wn ?_
    rintro _ σ33 ⟨_, ⟨a31, c32, rfl, rfl⟩, H, -⟩
    replace H : Hp _ _ _ [_, _, _, _, _] := H
    refine sm (.tuple #[(ifs2 r28.1.1 (.iface 94 (.agg #[(I r28.1.2.1)])) (.iface 98 (.agg #[(I r28.1.2.2.1), (Sl a31 r28.1.2.2.2.1 c32), (I r28.1.2.2.2.2)]))), (B r28.2)]) rfl (st (v := (ifs2 r28.1.1 (.iface 94 (.agg #[(I r28.1.2.1)])) (.iface 98 (.agg #[(I r28.1.2.2.1), (Sl a31 r28.1.2.2.2.1 c32), (I r28.1.2.2.2.2)])))) (rv_extract rfl rfl) (st (v := (B r28.2)) (rv_extract rfl rfl) (sa (ifs2 r28.1.1 (.iface 94 (.agg #[(I r28.1.2.1)])) (.iface 98 (.agg #[(I r28.1.2.2.1), (Sl a31 r28.1.2.2.2.1 c32), (I r28.1.2.2.2.2)]))) rfl (sa (B r28.2) rfl (w_end (q_then (c_seq (c_seq (rg (sm (B r28.2) rfl (st (v := (B (!r28.2))) (rv_not rfl) ?_)))))))))))
    refine w_end (q_then ?_)
    refine cd_cond (!r28.2) rfl (fun hb34 => ?_) (fun hb34 => ?_)
    ·replace h := bif_t hb34 h
     refine c_seq (rg (sa (.slice none 0 0) rfl (sa (B false) rfl (w_end (q_then (c_ret (q_then_r (q_blk_r (q_then_r (q_then_r (q_blk_r ?_)))))))))))
     obtain rfl := sj h
     obtain rfl := hres _ rfl
     replace H := H.nilOwn (If2 Int ((Int × (List Int) × Int))) n0 n0
     exact .inr (⟨_, rfl, rfl, _, σ33, none, 0, fr_join ⟨rfl, rfl, trivial⟩, rfl, H.sel' [0] rfl rfl⟩)
    ·replace h := bif_f hb34 h
     refine c_skip (q_then (rg (sm (Sl (some ⟨b4, 0, none⟩) s9.1 c5) rfl (sm (I s9.2) rfl (sm (ifs2 r28.1.1 (.iface 94 (.agg #[(I r28.1.2.1)])) (.iface 98 (.agg #[(I r28.1.2.2.1), (Sl a31 r28.1.2.2.2.1 c32), (I r28.1.2.2.2.2)]))) rfl ?_)))))
     revert h; refine br fun x35 hx36 h => ?_
     obtain ⟨b38, o39, hi37, -⟩ := (H.own 3 rfl).ix hx36
     refine st (v := (pt b38 o39)) (rv_ix Try.underlying62 ti75 rfl rfl hi37) ?_
     refine st_exS (ex_store_own (e' := (If2.mk r28.1.1 r28.1.2.1 (r28.1.2.2.1, r28.1.2.2.2.1, r28.1.2.2.2.2))) (vs := [(ifs2 r28.1.1 (.iface 94 (.agg #[(I r28.1.2.1)])) (.iface 98 (.agg #[(I r28.1.2.2.1), (Sl a31 r28.1.2.2.2.1 c32), (I r28.1.2.2.2.2)])))]) (k := 0) H (i := 3) rfl ti75 hx36 hi37 rfl rfl rfl ifs2_cells rfl (Nat.le_of_ble_eq_true rfl) plain2 (by rintro _ ⟨_, _, rfl, ⟨_, _, rfl, rfl, ⟨_, _, rfl, ⟨_, rfl, hR42⟩, rfl⟩⟩, rfl⟩; exact ⟨[(I r28.1.2.1)], [(I r28.1.2.2.1), (Sl a31 r28.1.2.2.2.1 c32), (I r28.1.2.2.2.2)], rfl, ⟨[(I r28.1.2.2.1)], [(Sl a31 r28.1.2.2.2.1 c32), (I r28.1.2.2.2.2)], rfl, rfl, ⟨[(Sl a31 r28.1.2.2.2.1 c32)], [(I r28.1.2.2.2.2)], rfl, ⟨_, rfl, (H.ro 0 rfl)⟩, rfl⟩⟩, rfl⟩)) wn ?_
     rintro σ43 ⟨H, -⟩
     have hsl : (Sl (some ⟨b4, 0, none⟩) s9.1 c5) = (Sl (some ⟨b4, 0, none⟩) (s9.1.set s9.2.toNat (If2.mk r28.1.1 r28.1.2.1 (r28.1.2.2.1, r28.1.2.2.2.1, r28.1.2.2.2.2))) c5) := sl_len List.length_set.symm
     rw [hsl]; rw [hsl] at H; clear hsl
     refine w_end (q_blk (q_then (rg (st (v := (I (w64 (s9.2 + 1)))) (rv_add (a := s9.2) (b := 1) rfl rfl) (sm (I (w64 (s9.2 + 1))) rfl (w_end (q_then ?_)))))))
     obtain rfl := sj h
     exact ⟨_, rfl, _, σ43, fr_join ⟨rfl, rfl, rfl, rfl, trivial⟩, rfl, H.sel' [0, 4] rfl rfl, (ht11.trans List.length_set.symm), (List.length_set.trans hn12)⟩
   ·replace h := bif_f hb13 h
    refine c_exit (q_then_x (q_then_x (q_blk_hit ?_)))
    obtain rfl := sj h
    obtain rfl := hres _ rfl
    exact .inl ⟨_, rfl, rfl, _, σ10, fr_join ⟨rfl, trivial⟩, rfl, H.sel' [0] rfl rfl, ht11, hn12⟩
  ·clear hj
   have h := h'
   clear h' H
   rintro e a w (⟨t44, rfl, rfl, ρ, σ45, rfl, rfl, H, ht46, hn47⟩ | ⟨t48, rfl, rfl, ρ, σ49, a50, c51, rfl, rfl, H⟩)
   ·replace h := selim_l h
    refine q_then (c_seq (rg (sm (Sl (some ⟨b4, 0, none⟩) t44 c5) rfl (sa (Sl (some ⟨b4, 0, none⟩) t44 c5) rfl (sa (B true) rfl (w_end (q_then (c_ret ?_))))))))
    obtain rfl := sj h
    exact fin_ret (v := (.tuple #[(Sl (some ⟨b4, 0, none⟩) t44 c5), (B true)])) (results_ok Try.results44 (res_tmp (v := (Sl (some ⟨b4, 0, none⟩) t44 c5)) rfl (res_tmp (v := (B true)) rfl res_nil)) rfl) ⟨(some ⟨b4, 0, none⟩), c5, rfl, rfl⟩ (H.sel' [0] rfl rfl)
   ·replace h := selim_r h
    refine q_then_r ?_
    replace H := H.ownLow 0 n0 0 rfl (Nat.le_refl _) (Nat.zero_le _)
    obtain rfl := sj h
    exact fin_ret (v := (.tuple #[(Sl a50 t48.1 c51), (B t48.2)])) (results_ok Try.results44 (res_tmp (v := (Sl a50 t48.1 c51)) rfl (res_tmp (v := (B t48.2)) rfl res_nil)) rfl) ⟨a50, c51, rfl, rfl⟩ (H.sel' [0] rfl rfl)

theorem c_slices_Clone_int_int {Ay : List Int} {Az : Option Addr} {Ba : Nat} {r : (List Int)} (h : M.slices_Clone_int_int Ay = some r) :
    Cal2 Try.prog 58 [(Sl Az Ay Ba)] [Ch.ro 0 (Sl Az Ay Ba) Ay] (fun n0 v L => ∃ (az1 : Option Addr), ∃ (cz2 : Nat), v = (Sl az1 r cz2) ∧ L = [Ch.own n0 n0 (Sl az1 r cz2) r]) := by
 refine cal2 (n := 8) Try.func58 rfl rfl rfl rfl ?_
 intro S0 σ0 n0 hn0 H
 unfold M.slices_Clone_int_int at h
 refine c_seq (rg (sa (.slice none 0 0) rfl (w_end (q_then (c_seq (c_seq (rg (sm (Sl Az Ay Ba) rfl (st (v := (B Az.isNone)) (rv_nilS Try.underlying24 rfl rfl) (w_end (q_then ?_)))))))))))
 refine cd_cond Az.isNone rfl (fun hb1 => ?_) (fun hb1 => ?_)
 ·have hq := RS.nilOf hb1 (H.ro 0 rfl)
  subst hq
  replace h : some [] = some r := by simpa [gapp] using h
  refine c_seq (rg (sa (.slice none 0 0) rfl (w_end (q_then (c_ret (q_then_r ?_))))))
  replace H := H.nilOwn Int n0 n0
  obtain rfl := sj h
  exact fin_ret (v := (.slice none 0 0)) (results_ok Try.results58 (res_tmp (v := (.slice none 0 0)) rfl res_nil) rfl) ⟨none, 0, rfl, rfl⟩ (H.sel' [0] rfl rfl)
 ·refine c_skip ?_
  refine q_then (c_seq (rg ?_))
  refine st_ex (ex_buildSlice (el := n0) (xs := ([] : List Int)) (ps := []) (cs := []) H hn0 Try.underlying24 ti3 rfl rfl (by kernel_rfl) (.nil) rfl) wn ?_
  rintro _ σ3 ⟨b2, rfl, H, -⟩
  refine sm (Sl Az Ay Ba) rfl ?_
  revert h; refine br fun xs4 hx5 h => ?_
  refine st_ex (ex_append H (i := 0) rfl Try.underlying24 Try.underlying24 ti3 rfl rfl (by decide) ((H.ro 1 rfl).rd.sc) hx5 hn0 rfl rfl) wn ?_
  rintro _ σ8 ⟨a6, c7, rfl, H, -⟩
  refine sa (Sl a6 xs4 c7) rfl (w_end (q_then (c_ret ?_)))
  obtain rfl := sj h
  exact fin_ret (v := (Sl a6 xs4 c7)) (results_ok Try.results58 (res_tmp (v := (Sl a6 xs4 c7)) rfl res_nil) rfl) ⟨a6, c7, rfl, rfl⟩ (H.sel' [0] rfl rfl)

theorem c_impl_copyItem {Aj : Int × (List Int) × Int} {Ak : Option Addr} {Am : Nat} {r : (Int × (List Int) × Int)} (h : M.impl_copyItem Aj = some r) :
    Cal2 Try.prog 65 [(.agg #[(I Aj.1), (Sl Ak Aj.2.1 Am), (I Aj.2.2)])] [Ch.ro 0 (Sl Ak Aj.2.1 Am) Aj.2.1] (fun n0 v L => ∃ (az1 : Option Addr), ∃ (cz2 : Nat), v = (.agg #[(I r.1), (Sl az1 r.2.1 cz2), (I r.2.2)]) ∧ L = [Ch.own n0 n0 (Sl az1 r.2.1 cz2) r.2.1]) := by
 refine cal2 (n := 11) Try.func65 rfl rfl rfl rfl ?_
 intro S0 σ0 n0 hn0 H
 unfold M.impl_copyItem at h
 refine c_seq (rg (st_ex (ex_box (cs := [(I Aj.1), (Sl Ak Aj.2.1 Am), (I Aj.2.2)]) H hn0 rfl rfl) wn ?_))
 rintro _ σ2 ⟨b1, rfl, H, -⟩
 refine st_ex (ex_alloc (cs := [(I 0), (.slice none 0 0), (I 0)]) H hn0 ti41 rfl) wn ?_
 rintro _ σ4 ⟨b3, rfl, H, -⟩
 refine w_end (q_then (c_seq ?_))
 have hc5 := H.cell (u := (I Aj.1)) (o' := 0) 1 0 rfl rfl rfl
 have hc6 := H.cell (u := (Sl Ak Aj.2.1 Am)) (o' := 1) 1 1 rfl rfl rfl
 revert h; refine br fun r7 hx8 h => ?_
 have hc9 := c_slices_Clone_int_int (Az := Ak) (Ba := Am) hx8
 have hc12 := H.cell (u := (I Aj.2.2)) (o' := 2) 1 2 rfl rfl rfl
 have Hs := H
 refine rg2 (σ := σ4) (Nm := (Option Addr) × (Nat)) 7 [4] [[false], [true]] [[(0, 0), (1, 1)], [(0, 0), (1, 1)], [(0, 0)], [(0, 0)], [(0, 1)], [(0, 0), (1, 1)], [(0, 0), (1, 1)]] 1 [fun ((a10, c11) : (Option Addr) × (Nat)) => fun σm => Hp S0 σ0 σm [Ch.bx n0 b3 0 [(I 0), (.slice none 0 0), (I 0)] [] [], Ch.bx n0 b1 0 [(I Aj.1), (Sl Ak Aj.2.1 Am), (I Aj.2.2)] [] [], Ch.ro 0 (Sl Ak Aj.2.1 Am) Aj.2.1] ∧ Md (cov []) σ4 σm, fun ((a10, c11) : (Option Addr) × (Nat)) => fun σm => Hp S0 σ0 σm [Ch.own n0 n0 (Sl a10 r7 c11) r7, Ch.bx n0 b3 0 [(I 0), (.slice none 0 0), (I 0)] [] [], Ch.bx n0 b1 0 [(I Aj.1), (Sl Ak Aj.2.1 Am), (I Aj.2.2)] [] [], Ch.ro 0 (Sl Ak Aj.2.1 Am) Aj.2.1] ∧ Md (cov []) σ4 σm] [fun ((a10, c11) : (Option Addr) × (Nat)) => (pt b1 0), fun ((a10, c11) : (Option Addr) × (Nat)) => (I Aj.1), fun ((a10, c11) : (Option Addr) × (Nat)) => (pt b1 1), fun ((a10, c11) : (Option Addr) × (Nat)) => (Sl Ak Aj.2.1 Am), fun ((a10, c11) : (Option Addr) × (Nat)) => (Sl a10 r7 c11), fun ((a10, c11) : (Option Addr) × (Nat)) => (pt b1 2), fun ((a10, c11) : (Option Addr) × (Nat)) => (I Aj.2.2)] (none, 0) (by kernel_rfl) (by kernel_rfl) ?_ ?_ ?_
 ·intro σm m0
  exact ⟨H.grow (m0.mono fun _ h => h.elim), m0⟩
 ·refine ac rfl (by
    intro k; rintro ⟨a10, c11⟩ ρ σm hJ hoff hdep
    have e1 := look_off (N := 11) (hoff 1 rfl) rfl
    exact dp_v (v := (pt b1 0)) wn (rv_fieldAddr (off := 0) (ft := 3) Try.underlying41 rfl ti3 rfl e1) rfl hJ) ?_
  refine all_cons (by
    refine ⟨?_, ?_⟩
    ·rintro ⟨a10, c11⟩ ρ σm hJ hoff hdep
     have e3 := hdep 0 rfl rfl 3 rfl
     obtain ⟨H, m⟩ := id hJ
     have hc5 := H.cell (u := (I Aj.1)) (o' := 0) 1 0 rfl rfl rfl
     exact dp_v (v := (I Aj.1)) wn (rv_load1 Try.underlying3 rfl e3 hc5) rfl hJ
    refine ⟨?_, ?_⟩
    ·rintro ⟨a10, c11⟩ ρ σm hJ hoff hdep
     have e3 := hdep 0 rfl rfl 3 rfl
     obtain ⟨H, m⟩ := id hJ
     have hc5 := H.cell (u := (I Aj.1)) (o' := 0) 2 0 rfl rfl rfl
     exact dp_v (v := (I Aj.1)) wn (rv_load1 Try.underlying3 rfl e3 hc5) rfl hJ
    trivial) ?_
  refine ac rfl (by
    intro k; rintro ⟨a10, c11⟩ ρ σm hJ hoff hdep
    have e1 := look_off (N := 11) (hoff 1 rfl) rfl
    exact dp_v (v := (pt b1 1)) wn (rv_fieldAddr (off := 1) (ft := 24) Try.underlying41 rfl ti24 rfl e1) rfl hJ) ?_
  refine all_cons (by
    refine ⟨?_, ?_⟩
    ·rintro ⟨a10, c11⟩ ρ σm hJ hoff hdep
     have e5 := hdep 2 rfl rfl 5 rfl
     obtain ⟨H, m⟩ := id hJ
     have hc6 := H.cell (u := (Sl Ak Aj.2.1 Am)) (o' := 1) 1 1 rfl rfl rfl
     exact dp_v (v := (Sl Ak Aj.2.1 Am)) wn (rv_load1 Try.underlying24 rfl e5 hc6) rfl hJ
    trivial) ?_
  refine all_cons (by
    refine ⟨?_, ?_⟩
    ·rintro ⟨a10, c11⟩ ρ σm hJ hoff hdep
     have e6 : look 11 ρ 6 = (Sl Ak Aj.2.1 Am) := hdep 3 rfl rfl 6 rfl
     obtain ⟨H, m⟩ := id hJ
     refine dp_cx wn (cx_call hc9 (ent_f hc9.fn (by show [look 11 ρ 6] = _; rw [e6])) hn0 (H.sel' [2, 0, 1, 2] rfl rfl : Hp S0 σ0 _ ([_] ++ _))) ?_
     rintro _ σq ⟨_, ⟨a10x, c11x, rfl, rfl⟩, H2, m2⟩
     exact ⟨_, (a10x, c11x), rfl, rfl, ⟨H2.sel' [0, 1, 2, 3] rfl rfl, m.comp0 (m2.mono (fun i h => by simp [cov, Ch.ro] at h))⟩, stab [0, 1, 2, 3, 5, 6] (by kernel_rfl) ⟨rfl, rfl, rfl, rfl, rfl, rfl, trivial⟩⟩
    trivial) ?_
  refine ac rfl (by
    intro k; rintro ⟨a10, c11⟩ ρ σm hJ hoff hdep
    have e1 := look_off (N := 11) (hoff 1 rfl) rfl
    exact dp_v (v := (pt b1 2)) wn (rv_fieldAddr (off := 2) (ft := 3) Try.underlying41 rfl ti3 rfl e1) rfl hJ) ?_
  refine all_cons (by
    refine ⟨?_, ?_⟩
    ·rintro ⟨a10, c11⟩ ρ σm hJ hoff hdep
     have e8 := hdep 5 rfl rfl 8 rfl
     obtain ⟨H, m⟩ := id hJ
     have hc12 := H.cell (u := (I Aj.2.2)) (o' := 2) 1 2 rfl rfl rfl
     exact dp_v (v := (I Aj.2.2)) wn (rv_load1 Try.underlying3 rfl e8 hc12) rfl hJ
    refine ⟨?_, ?_⟩
    ·rintro ⟨a10, c11⟩ ρ σm hJ hoff hdep
     have e8 := hdep 5 rfl rfl 8 rfl
     obtain ⟨H, m⟩ := id hJ
     have hc12 := H.cell (u := (I Aj.2.2)) (o' := 2) 2 2 rfl rfl rfl
     exact dp_v (v := (I Aj.2.2)) wn (rv_load1 Try.underlying3 rfl e8 hc12) rfl hJ
    trivial) ?_
  exact all_nil
 ·rintro ⟨a10, c11⟩ ρ σ13 hJ hoff hrel
  have e2 := look_off (N := 11) (hoff 2 rfl) rfl
  have e4 := hrel 1 rfl 4 rfl
  have e7 := hrel 4 rfl 7 rfl
  have e9 := hrel 6 rfl 9 rfl
  obtain ⟨H, -⟩ := (show Hp S0 σ0 σ13 [Ch.own n0 n0 (Sl a10 r7 c11) r7, Ch.bx n0 b3 0 [(I 0), (.slice none 0 0), (I 0)] [] [], Ch.bx n0 b1 0 [(I Aj.1), (Sl Ak Aj.2.1 Am), (I Aj.2.2)] [] [], Ch.ro 0 (Sl Ak Aj.2.1 Am) Aj.2.1] ∧ Md (cov []) σ4 σ13 from hJ)
  clear hJ Hs
  rw [fr_lookL (L := [(2, (pt b3 0)), (4, (I Aj.1)), (7, (Sl a10 r7 c11)), (9, (I Aj.2.2))]) ⟨e2, e4, e7, e9, trivial⟩]
  clear hoff hrel e2 e4 e7 e9
  refine st (v := (.agg #[(I Aj.1), (Sl a10 r7 c11), (I Aj.2.2)])) (rv_build (ps := [(0, (I Aj.1)), (1, (Sl a10 r7 c11)), (2, (I Aj.2.2))]) Try.underlying41 ti41 (bp41 Try.underlying41) rfl (by kernel_rfl)) ?_
  refine st_exS (ex_store_box (k := 0) (cs := [(I 0), (.slice none 0 0), (I 0)]) (vs := [(I Aj.1), (Sl a10 r7 c11), (I Aj.2.2)]) (cs' := [(I Aj.1), (Sl a10 r7 c11), (I Aj.2.2)]) H (i := 1) rfl ti41 rfl rfl rfl rfl rfl (Nat.le_of_ble_eq_true rfl) (by simp [plain]) rfl) wn ?_
  rintro σ14 ⟨H, -⟩
  refine w_end (q_then (c_ret ?_))
  obtain rfl := sj h
  exact fin_ret (v := (.agg #[(I Aj.1), (Sl a10 r7 c11), (I Aj.2.2)])) (results_ok Try.results65 (res_cell rfl (run_cellRes (cs := [(I Aj.1), (Sl a10 r7 c11), (I Aj.2.2)]) Try.underlying41 rfl ti41 rfl (H.cells 0 rfl)) res_nil) rfl) ⟨a10, c11, rfl, rfl⟩ (H.sel' [1] rfl rfl)

theorem c_impl_copyItems {Ao : List (Int × (List Int) × Int)} {Ap : Option Addr} {Aq : Nat} {r : (List (Int × (List Int) × Int))} (h : M.impl_copyItems Ao = some r) :
    Cal2 Try.prog 53 [(Sl Ap Ao Aq)] [Ch.ro 0 (Sl Ap Ao Aq) Ao] (fun n0 v L => ∃ (az1 : Option Addr), ∃ (cz2 : Nat), v = (Sl az1 r cz2) ∧ L = [Ch.own n0 n0 (Sl az1 r cz2) r] ∧ cz2 = r.length) := by
 refine cal2 (n := 23) Try.func53 rfl rfl rfl rfl ?_
 intro S0 σ0 n0 hn0 H
 unfold M.impl_copyItems at h
 refine c_seq (rg (sa (.slice none 0 0) rfl (w_end (q_then (c_seq (rg (sm (Sl Ap Ao Aq) rfl (st (v := (I (Ao.length : Int))) (rv_len Try.underlying33 rfl) ?_))))))))
 revert h; refine br fun xs1 hx2 h => ?_
 refine st_ex (ex_make (el := n0) (z0 := ((0, [], 0) : Int × (List Int) × Int)) (zs := [(I 0), (.slice none 0 0), (I 0)]) H hn0 Try.underlying33 ti41 rfl rfl (⟨[(I 0)], [(.slice none 0 0), (I 0)], rfl, rfl, ⟨[(.slice none 0 0)], [(I 0)], rfl, ⟨_, rfl, RS.nil⟩, rfl⟩⟩) (by decide) hx2 rfl rfl) wn ?_
 rintro _ σ6 ⟨b3, c4, rfl, ht5, H, -⟩
 replace ht5 := ht5.trans (gmake_len hx2).symm
 refine sa (Sl (some ⟨b3, 0, none⟩) xs1 c4) rfl (w_end (q_then (c_seq (c_seq (rg (sm (Sl Ap Ao Aq) rfl (st (v := (I (Ao.length : Int))) (rv_len Try.underlying33 rfl) (sm (I 0) rfl (w_end (q_then ?_))))))))))
 obtain ⟨o7, hj, h'⟩ := bind_some h
 clear h
 refine c_cut (fun e a w => e = .normal ∧ ∃ (ρ : Nat → Value) (σ : St), a = fr 23 (updL ρ [(3, (Sl (some ⟨b3, 0, none⟩) o7 c4))]) ∧ w = σ.w ∧ Hp S0 σ0 σ [Ch.own n0 n0 (Sl (some ⟨b3, 0, none⟩) o7 c4) o7] ∧ c4 = o7.length ∧ o7.length = xs1.length) ?_ ?_
 ·clear h'
  rename _ = some o7 => h
  refine c_blk (wp_loopM _ h (fun s8 a w => ∃ (ρ : Nat → Value) (σ : St), a = fr 23 (updL ρ [(3, (Sl (some ⟨b3, 0, none⟩) s8.1 c4)), (9, (Sl Ap Ao Aq)), (10, (I (Ao.length : Int))), (11, (I s8.2))]) ∧ w = σ.w ∧ Hp S0 σ0 σ [Ch.own n0 n0 (Sl (some ⟨b3, 0, none⟩) s8.1 c4) s8.1, Ch.ro 0 (Sl Ap Ao Aq) Ao] ∧ c4 = s8.1.length ∧ s8.1.length = xs1.length) ⟨_, σ6, fr_join ⟨rfl, rfl, rfl, rfl, trivial⟩, rfl, H.sel' [0, 1] rfl rfl, ht5, rfl⟩ ?_)
  clear h H
  rintro s8 a w o ⟨ρ, σ9, rfl, rfl, H, ht10, hn11⟩ h hres
  refine c_seq (rg (st (v := (B (decide (s8.2 < (Ao.length : Int))))) (rv_lss (a := s8.2) (b := (Ao.length : Int)) rfl rfl) (w_end (q_then (c_seq ?_)))))
  refine cd_cond (decide (s8.2 < (Ao.length : Int))) rfl (fun hb12 => ?_) (fun hb12 => ?_)
  ·replace h := bif_t hb12 h
   refine c_skip (q_then (c_seq (c_blk (c_seq (rg (sm (I s8.2) rfl ?_))))))
   revert h; refine br fun x13 hx14 h => ?_
   obtain ⟨b16, o17, hi15, -⟩ := (H.ro 1 rfl).ix hx14
   refine st (v := (pt b16 o17)) (rv_ix Try.underlying33 ti41 rfl rfl hi15) ?_
   obtain ⟨_, ⟨_, _, rfl, rfl, ⟨_, _, rfl, ⟨_, rfl, hR22⟩, rfl⟩⟩, hl18, hc19⟩ := ((H.ro 1 rfl).at hx14 hi15).cells
   obtain ⟨a20, c21, rfl⟩ := hR22.isSl
   replace H := H.add (d := Ch.ro 0 (Sl a20 x13.2.1 c21) x13.2.1) hR22 (fun _ h => h)
   clear hR22
   refine st (v := (.agg #[(I x13.1), (Sl a20 x13.2.1 c21), (I x13.2.2)])) (rv_load Try.underlying41 rfl ti41 rfl hl18 hc19) (st_ex (ex_alloc (cs := [(I 0), (.slice none 0 0), (I 0)]) H hn0 ti41 rfl) wn ?_)
   rintro _ σ24 ⟨b23, rfl, H, -⟩
   refine sa (I s8.2) rfl ?_
   refine st_exS (ex_store_box (k := 0) (cs := [(I 0), (.slice none 0 0), (I 0)]) (vs := [(I x13.1), (Sl a20 x13.2.1 c21), (I x13.2.2)]) (cs' := [(I x13.1), (Sl a20 x13.2.1 c21), (I x13.2.2)]) H (i := 0) rfl ti41 rfl rfl rfl rfl rfl (Nat.le_of_ble_eq_true rfl) (by simp [plain]) rfl) wn ?_
   rintro σ25 ⟨H, -⟩
   refine w_end (q_then (rg (sm (Sl (some ⟨b3, 0, none⟩) s8.1 c4) rfl (sm (I s8.2) rfl ?_))))
   have hc26 := H.cells 0 rfl
   refine st (v := (.agg #[(I x13.1), (Sl a20 x13.2.1 c21), (I x13.2.2)])) (rv_load (cs := [(I x13.1), (Sl a20 x13.2.1 c21), (I x13.2.2)]) Try.underlying41 rfl ti41 rfl rfl hc26) ?_
   revert h; refine br fun r27 hx28 h => ?_
   have hc29 := c_impl_copyItem (Ak := a20) (Am := c21) hx28
   refine st_call (cx_call hc29 (ent_f hc29.fn rfl) hn0 (H.sel' [1, 0, 1, 2, 3] rfl rfl : Hp S0 σ0 _ ([_] ++ _))) wn ?_
   rintro _ σ32 ⟨_, ⟨a30, c31, rfl, rfl⟩, H, -⟩
   replace H : Hp _ _ _ [_, _, _, _, _] := H
   revert h; refine br fun x33 hx34 h => ?_
   obtain ⟨b36, o37, hi35, -⟩ := (H.own 3 rfl).ix hx34
   refine st (v := (pt b36 o37)) (rv_ix Try.underlying33 ti41 rfl rfl hi35) ?_
   obtain ⟨σ38, hw39, H, -⟩ := H.pub 0 rfl (Nat.le_refl _)
   rw [← hw39]; clear hw39
   refine st_exS (ex_store_own (e' := (r27.1, r27.2.1, r27.2.2)) (vs := [(I r27.1), (Sl a30 r27.2.1 c31), (I r27.2.2)]) (k := 0) H (i := 3) rfl ti41 hx34 hi35 rfl rfl rfl rfl rfl (Nat.le_of_ble_eq_true rfl) (by simp [plain]) (by rintro _ ⟨_, _, rfl, rfl, ⟨_, _, rfl, ⟨_, rfl, hR42⟩, rfl⟩⟩; exact ⟨[(I r27.1)], [(Sl a30 r27.2.1 c31), (I r27.2.2)], rfl, rfl, ⟨[(Sl a30 r27.2.1 c31)], [(I r27.2.2)], rfl, ⟨_, rfl, (H.ro 0 rfl)⟩, rfl⟩⟩)) wn ?_
   rintro σ43 ⟨H, -⟩
   have hsl : (Sl (some ⟨b3, 0, none⟩) s8.1 c4) = (Sl (some ⟨b3, 0, none⟩) (s8.1.set s8.2.toNat (r27.1, r27.2.1, r27.2.2)) c4) := sl_len List.length_set.symm
   rw [hsl]; rw [hsl] at H; clear hsl
   refine w_end (q_blk (q_then (rg (st (v := (I (w64 (s8.2 + 1)))) (rv_add (a := s8.2) (b := 1) rfl rfl) (sm (I (w64 (s8.2 + 1))) rfl (w_end (q_then ?_)))))))
   obtain rfl := sj h
   exact ⟨_, rfl, _, σ43, fr_join ⟨rfl, rfl, rfl, rfl, trivial⟩, rfl, H.sel' [0, 4] rfl rfl, (ht10.trans List.length_set.symm), (List.length_set.trans hn11)⟩
  ·replace h := bif_f hb12 h
   refine c_exit (q_then_x (q_then_x (q_blk_hit ?_)))
   obtain rfl := sj h
   obtain rfl := hres _ rfl
   exact ⟨rfl, _, σ9, fr_join ⟨rfl, trivial⟩, rfl, H.sel' [0] rfl rfl, ht10, hn11⟩
 ·clear hj
  have h := h'
  clear h' H
  rintro e a w ⟨rfl, ρ, σ44, rfl, rfl, H, ht45, hn46⟩
  refine q_then (c_seq (rg (sm (Sl (some ⟨b3, 0, none⟩) o7 c4) rfl (sa (Sl (some ⟨b3, 0, none⟩) o7 c4) rfl (w_end (q_then (c_ret ?_)))))))
  obtain rfl := sj h
  exact fin_ret (v := (Sl (some ⟨b3, 0, none⟩) o7 c4)) (results_ok Try.results53 (res_tmp (v := (Sl (some ⟨b3, 0, none⟩) o7 c4)) rfl res_nil) rfl) ⟨(some ⟨b3, 0, none⟩), c4, rfl, rfl, ht45⟩ (H.sel' [0] rfl rfl)

theorem c_cmp_isNaN_int {Aj : Int}  {r : Bool} (h : M.cmp_isNaN_int Aj = some r) :
    Cal2 Try.prog 111 [(I Aj)] [] (fun n0 v L => v = (B r) ∧ L = []) := by
 refine cal2 (n := 6) Try.func111 rfl rfl rfl rfl ?_
 intro S0 σ0 n0 hn0 H
 unfold M.cmp_isNaN_int at h
 refine c_seq (rg (sa (B false) rfl (w_end (q_then (c_seq (rg (sm (I Aj) rfl (sm (I Aj) rfl (st (v := (B (Aj != Aj))) (rv_neq (a := Aj) (b := Aj) rfl rfl) (sa (B (Aj != Aj)) rfl (w_end ?_)))))))))))
 refine q_then (c_ret ?_)
 obtain rfl := sj h
 exact fin_ret (v := (B (Aj != Aj))) (results_ok Try.results111 (res_tmp (v := (B (Aj != Aj))) rfl res_nil) rfl) ⟨rfl, rfl⟩ (H.sel' [] rfl rfl)

theorem c_cmp_Compare_int {Aj : Int} {Bb : Int}  {r : Int} (h : M.cmp_Compare_int Aj Bb = some r) :
    Cal2 Try.prog 95 [(I Aj), (I Bb)] [] (fun n0 v L => v = (I r) ∧ L = []) := by
 refine cal2 (n := 20) Try.func95 rfl rfl rfl rfl ?_
 intro S0 σ0 n0 hn0 H
 unfold M.cmp_Compare_int at h
 refine c_seq (rg (sa (I 0) rfl (w_end (q_then (c_seq (rg (sm (I Aj) rfl ?_)))))))
 revert h; refine br fun r1 hx2 h => ?_
 have hc3 := c_cmp_isNaN_int hx2
 refine st_call (cx_call hc3 (ent_f hc3.fn rfl) hn0 (H.sel' [] rfl rfl : Hp S0 σ0 _ ([] ++ _))) wn ?_
 rintro _ σ4 ⟨_, ⟨rfl, rfl⟩, H, -⟩
 replace H : Hp _ _ _ [] := H
 refine sa (B r1) rfl (w_end (q_then (c_seq (rg (sm (I Bb) rfl ?_)))))
 revert h; refine br fun r5 hx6 h => ?_
 have hc7 := c_cmp_isNaN_int hx6
 refine st_call (cx_call hc7 (ent_f hc7.fn rfl) hn0 (H.sel' [] rfl rfl : Hp S0 σ0 _ ([] ++ _))) wn ?_
 rintro _ σ8 ⟨_, ⟨rfl, rfl⟩, H, -⟩
 replace H : Hp _ _ _ [] := H
 refine sa (B r5) rfl (w_end (q_then (c_seq (c_seq (rg (sm (B r1) rfl (w_end (q_then ?_))))))))
 refine cd_cond r1 rfl (fun hb9 => ?_) (fun hb9 => ?_)
 ·replace h := bif_t hb9 h
  refine c_seq (c_seq (rg (sm (B r5) rfl (w_end (q_then ?_)))))
  refine cd_cond r5 rfl (fun hb10 => ?_) (fun hb10 => ?_)
  ·replace h := bif_t hb10 h
   refine c_seq (rg (sa (I 0) rfl (w_end (q_then (c_ret (q_then_r (q_then_r ?_)))))))
   obtain rfl := sj h
   exact fin_ret (v := (I 0)) (results_ok Try.results95 (res_tmp (v := (I 0)) rfl res_nil) rfl) ⟨rfl, rfl⟩ (H.sel' [] rfl rfl)
  ·replace h := bif_f hb10 h
   refine c_skip (q_then (c_seq (rg (sa (I (-1)) rfl (w_end (q_then (c_ret (q_then_r ?_))))))))
   obtain rfl := sj h
   exact fin_ret (v := (I (-1))) (results_ok Try.results95 (res_tmp (v := (I (-1))) rfl res_nil) rfl) ⟨rfl, rfl⟩ (H.sel' [] rfl rfl)
 ·replace h := bif_f hb9 h
  refine c_skip (q_then (c_seq (c_seq (rg (sm (B r5) rfl (w_end (q_then ?_)))))))
  refine cd_cond r5 rfl (fun hb11 => ?_) (fun hb11 => ?_)
  ·replace h := bif_t hb11 h
   refine c_seq (rg (sa (I 1) rfl (w_end (q_then (c_ret (q_then_r ?_))))))
   obtain rfl := sj h
   exact fin_ret (v := (I 1)) (results_ok Try.results95 (res_tmp (v := (I 1)) rfl res_nil) rfl) ⟨rfl, rfl⟩ (H.sel' [] rfl rfl)
  ·replace h := bif_f hb11 h
   refine c_skip (q_then (c_seq (c_seq (rg (sm (I Aj) rfl (sm (I Bb) rfl (st (v := (B (decide (Aj < Bb)))) (rv_lss (a := Aj) (b := Bb) rfl rfl) (w_end (q_then ?_)))))))))
   refine cd_cond (decide (Aj < Bb)) rfl (fun hb12 => ?_) (fun hb12 => ?_)
   ·replace h := bif_t hb12 h
    refine c_seq (rg (sa (I (-1)) rfl (w_end (q_then (c_ret (q_then_r ?_))))))
    obtain rfl := sj h
    exact fin_ret (v := (I (-1))) (results_ok Try.results95 (res_tmp (v := (I (-1))) rfl res_nil) rfl) ⟨rfl, rfl⟩ (H.sel' [] rfl rfl)
   ·replace h := bif_f hb12 h
    refine c_skip (q_then (c_seq (c_seq (rg (sm (I Aj) rfl (sm (I Bb) rfl (st (v := (B (decide (Bb < Aj)))) (rv_gtr (a := Aj) (b := Bb) rfl rfl) (w_end (q_then ?_)))))))))
    refine cd_cond (decide (Bb < Aj)) rfl (fun hb13 => ?_) (fun hb13 => ?_)
    ·replace h := bif_t hb13 h
     refine c_seq (rg (sa (I 1) rfl (w_end (q_then (c_ret (q_then_r ?_))))))
     obtain rfl := sj h
     exact fin_ret (v := (I 1)) (results_ok Try.results95 (res_tmp (v := (I 1)) rfl res_nil) rfl) ⟨rfl, rfl⟩ (H.sel' [] rfl rfl)
    ·replace h := bif_f hb13 h
     refine c_skip (q_then (c_seq (rg (sa (I 0) rfl (w_end (q_then (c_ret ?_)))))))
     obtain rfl := sj h
     exact fin_ret (v := (I 0)) (results_ok Try.results95 (res_tmp (v := (I 0)) rfl res_nil) rfl) ⟨rfl, rfl⟩ (H.sel' [] rfl rfl)

theorem c_impl_placeOf_1 {Aj : Int × (List Int) × Int} {Bc : Int} {Ak : Option Addr} {Am : Nat} {r : Int} (h : M.impl_placeOf_1 Aj Bc = some r) :
    Cal2 Try.prog 94 [(.agg #[(I Aj.1), (Sl Ak Aj.2.1 Am), (I Aj.2.2)]), (I Bc)] [Ch.ro 0 (Sl Ak Aj.2.1 Am) Aj.2.1] (fun n0 v L => v = (I r) ∧ L = []) := by
 refine cal2 (n := 9) Try.func94 rfl rfl rfl rfl ?_
 intro S0 σ0 n0 hn0 H
 unfold M.impl_placeOf_1 at h
 refine c_seq (rg (st_ex (ex_box (cs := [(I Aj.1), (Sl Ak Aj.2.1 Am), (I Aj.2.2)]) H hn0 rfl rfl) wn ?_))
 rintro _ σ2 ⟨b1, rfl, H, -⟩
 refine sa (I 0) rfl (w_end (q_then (c_seq (rg (st (v := (pt b1 0)) (rv_fieldAddr (off := 0) (ft := 3) Try.underlying41 rfl ti3 rfl rfl) ?_)))))
 have hc3 := H.cell (u := (I Aj.1)) (o' := 0) 0 0 rfl rfl rfl
 refine st (v := (I Aj.1)) (rv_load1 Try.underlying3 rfl rfl hc3) (sm (I Bc) rfl ?_)
 revert h; refine br fun r4 hx5 h => ?_
 have hc6 := c_cmp_Compare_int hx5
 refine st_call (cx_call hc6 (ent_f hc6.fn rfl) hn0 (H.sel' [0, 1] rfl rfl : Hp S0 σ0 _ ([] ++ _))) wn ?_
 rintro _ σ7 ⟨_, ⟨rfl, rfl⟩, H, -⟩
 replace H : Hp _ _ _ [_, _] := H
 refine sa (I r4) rfl (w_end (q_then (c_ret ?_)))
 obtain rfl := sj h
 exact fin_ret (v := (I r4)) (results_ok Try.results94 (res_tmp (v := (I r4)) rfl res_nil) rfl) ⟨rfl, rfl⟩ (H.sel' [] rfl rfl)

theorem c_slices_BinarySearchFunc_impl_Item_impl_Item_int__impl_placeOf_1 {Aj : List (Int × (List Int) × Int)} {Bd : Int} {Be : Option Addr} {Bf : Nat} {r : Int × Bool} (h : M.slices_BinarySearchFunc_impl_Item_impl_Item_int__impl_placeOf_1 Aj Bd = some r) :
    Cal2 Try.prog 93 [(Sl Be Aj Bf), (I Bd), (.func (.func 94) #[] #[])] [Ch.ro 0 (Sl Be Aj Bf) Aj] (fun n0 v L => v = (.tuple #[(I r.1), (B r.2)]) ∧ L = []) := by
 refine cal2 (n := 49) Try.func93 rfl rfl rfl rfl ?_
 intro S0 σ0 n0 hn0 H
 unfold M.slices_BinarySearchFunc_impl_Item_impl_Item_int__impl_placeOf_1 at h
 refine c_seq (rg (sa (I 0) rfl (sa (B false) rfl (w_end (q_then (c_seq (rg (sm (Sl Be Aj Bf) rfl (st (v := (I (Aj.length : Int))) (rv_len Try.underlying33 rfl) (sa (I (Aj.length : Int)) rfl (w_end ?_)))))))))))
 refine q_then (c_seq (rg (sm (I (Aj.length : Int)) rfl (sa (I 0) rfl (sa (I (Aj.length : Int)) rfl (w_end (q_then (c_seq ?_))))))))
 obtain ⟨o1, hj, h'⟩ := bind_some h
 clear h
 refine c_cut (fun e a w => e = .normal ∧ ∃ (ρ : Nat → Value) (σ : St), a = fr 49 (updL ρ [(0, (Sl Be Aj Bf)), (1, (I Bd)), (2, (.func (.func 94) #[] #[])), (8, (I (Aj.length : Int))), (9, (I o1))]) ∧ w = σ.w ∧ Hp S0 σ0 σ [Ch.ro 0 (Sl Be Aj Bf) Aj]) ?_ ?_
 ·clear h'
  rename _ = some o1 => h
  refine c_blk (wp_loopM _ h (fun s2 a w => ∃ (ρ : Nat → Value) (σ : St), a = fr 49 (updL ρ [(0, (Sl Be Aj Bf)), (1, (I Bd)), (2, (.func (.func 94) #[] #[])), (8, (I (Aj.length : Int))), (9, (I s2.1)), (10, (I s2.2))]) ∧ w = σ.w ∧ Hp S0 σ0 σ [Ch.ro 0 (Sl Be Aj Bf) Aj]) ⟨_, σ0, fr_join ⟨rfl, rfl, rfl, rfl, rfl, rfl, trivial⟩, rfl, H.sel' [0] rfl rfl⟩ ?_)
  clear h H
  rintro s2 a w o ⟨ρ, σ3, rfl, rfl, H⟩ h hres
  refine c_seq (c_seq (rg (sm (I s2.1) rfl (sm (I s2.2) rfl (st (v := (B (decide (s2.1 < s2.2)))) (rv_lss (a := s2.1) (b := s2.2) rfl rfl) (w_end (q_then ?_)))))))
  refine cd_cond (decide (s2.1 < s2.2)) rfl (fun hb4 => ?_) (fun hb4 => ?_)
  ·replace h := bif_t hb4 h
   refine c_skip (q_then (c_blk (c_seq (rg (sm (I s2.1) rfl (sm (I s2.2) rfl (st (v := (I (w64 (s2.1 + s2.2)))) (rv_add (a := s2.1) (b := s2.2) rfl rfl) (st (v := (.int .u64 (wk .u64 (w64 (s2.1 + s2.2))))) (rvk_conv (k := .i64) (k' := .u64) (a := (w64 (s2.1 + s2.2))) Try.underlying3 Try.underlying121 rfl) ?_))))))))
   refine st (v := (.int .u64 (gshr .u64 (wk .u64 (w64 (s2.1 + s2.2))) 1))) (rvk_shr (k := .u64) (k' := .u64) (a := (wk .u64 (w64 (s2.1 + s2.2)))) (b := 1) rfl rfl (by decide)) ?_
   refine st (v := (I (wk .i64 (gshr .u64 (wk .u64 (w64 (s2.1 + s2.2))) 1)))) (rvk_conv (k := .u64) (k' := .i64) (a := (gshr .u64 (wk .u64 (w64 (s2.1 + s2.2))) 1)) Try.underlying121 Try.underlying3 rfl) (sa (I (wk .i64 (gshr .u64 (wk .u64 (w64 (s2.1 + s2.2))) 1))) rfl (w_end (q_then (c_seq (rg (sm (.func (.func 94) #[] #[]) rfl (sm (Sl Be Aj Bf) rfl (sm (I (wk .i64 (gshr .u64 (wk .u64 (w64 (s2.1 + s2.2))) 1))) rfl ?_))))))))
   revert h; refine br fun x5 hx6 h => ?_
   obtain ⟨b8, o9, hi7, -⟩ := (H.ro 0 rfl).ix hx6
   refine st (v := (pt b8 o9)) (rv_ix Try.underlying33 ti41 rfl rfl hi7) ?_
   obtain ⟨_, ⟨_, _, rfl, rfl, ⟨_, _, rfl, ⟨_, rfl, hR14⟩, rfl⟩⟩, hl10, hc11⟩ := ((H.ro 0 rfl).at hx6 hi7).cells
   obtain ⟨a12, c13, rfl⟩ := hR14.isSl
   replace H := H.add (d := Ch.ro 0 (Sl a12 x5.2.1 c13) x5.2.1) hR14 (fun _ h => h)
   clear hR14
   refine st (v := (.agg #[(I x5.1), (Sl a12 x5.2.1 c13), (I x5.2.2)])) (rv_load Try.underlying41 rfl ti41 rfl hl10 hc11) (sm (I Bd) rfl ?_)
   revert h; refine br fun r15 hx16 h => ?_
   have hc17 := c_impl_placeOf_1 (Ak := a12) (Am := c13) hx16
   refine st_call (cx_call hc17 (ent_v (cap := []) hc17.fn rfl rfl) hn0 (H.sel' [0, 0, 1] rfl rfl : Hp S0 σ0 _ ([_] ++ _))) wn ?_
   rintro _ σ18 ⟨_, ⟨rfl, rfl⟩, H, -⟩
   replace H : Hp _ _ _ [_, _] := H
   refine st (v := (B (decide (r15 < 0)))) (rv_lss (a := r15) (b := 0) rfl rfl) (w_end (q_then ?_))
   refine cd_cond (decide (r15 < 0)) rfl (fun hb19 => ?_) (fun hb19 => ?_)
   ·replace h := bif_t hb19 h
    refine rg (sm (I (wk .i64 (gshr .u64 (wk .u64 (w64 (s2.1 + s2.2))) 1))) rfl (st (v := (I (w64 ((wk .i64 (gshr .u64 (wk .u64 (w64 (s2.1 + s2.2))) 1)) + 1)))) (rv_add (a := (wk .i64 (gshr .u64 (wk .u64 (w64 (s2.1 + s2.2))) 1))) (b := 1) rfl rfl) (sa (I (w64 ((wk .i64 (gshr .u64 (wk .u64 (w64 (s2.1 + s2.2))) 1)) + 1))) rfl (w_end (q_blk (q_then ?_))))))
    obtain rfl := sj h
    exact ⟨_, rfl, _, σ18, fr_join ⟨rfl, rfl, rfl, rfl, rfl, rfl, trivial⟩, rfl, H.sel' [1] rfl rfl⟩
   ·replace h := bif_f hb19 h
    refine rg (sm (I (wk .i64 (gshr .u64 (wk .u64 (w64 (s2.1 + s2.2))) 1))) rfl (sa (I (wk .i64 (gshr .u64 (wk .u64 (w64 (s2.1 + s2.2))) 1))) rfl (w_end (q_blk (q_then ?_)))))
    obtain rfl := sj h
    exact ⟨_, rfl, _, σ18, fr_join ⟨rfl, rfl, rfl, rfl, rfl, rfl, trivial⟩, rfl, H.sel' [1] rfl rfl⟩
  ·replace h := bif_f hb4 h
   refine c_exit (q_then_x (q_then_x (q_blk_hit ?_)))
   obtain rfl := sj h
   obtain rfl := hres _ rfl
   exact ⟨rfl, _, σ3, fr_join ⟨rfl, rfl, rfl, rfl, rfl, trivial⟩, rfl, H.sel' [0] rfl rfl⟩
 ·clear hj
  have h := h'
  clear h' H
  rintro e a w ⟨rfl, ρ, σ20, rfl, rfl, H⟩
  refine q_then (c_seq (rg (sm (I o1) rfl (sm (I o1) rfl (sm (I (Aj.length : Int)) rfl (st (v := (B (decide (o1 < (Aj.length : Int))))) (rv_lss (a := o1) (b := (Aj.length : Int)) rfl rfl) (sm (B (decide (o1 < (Aj.length : Int)))) rfl ?_)))))))
  rcases Bool.eq_false_or_eq_true (decide (o1 < (Aj.length : Int))) with hb21 | hb21
  ·replace h := bif_t hb21 h
   refine st_g (v := (.func (.func 94) #[] #[])) (congrArg some hb21) (rv_move rfl) (st_g (v := (Sl Be Aj Bf)) (congrArg some hb21) (rv_move rfl) (st_g (v := (I o1)) (congrArg some hb21) (rv_move rfl) ?_))
   revert h; refine br fun x22 hx23 h => ?_
   obtain ⟨b25, o26, hi24, -⟩ := (H.ro 0 rfl).ix hx23
   refine st_g (v := (pt b25 o26)) (congrArg some hb21) (rv_ix Try.underlying33 ti41 rfl rfl hi24) ?_
   obtain ⟨_, ⟨_, _, rfl, rfl, ⟨_, _, rfl, ⟨_, rfl, hR31⟩, rfl⟩⟩, hl27, hc28⟩ := ((H.ro 0 rfl).at hx23 hi24).cells
   obtain ⟨a29, c30, rfl⟩ := hR31.isSl
   replace H := H.add (d := Ch.ro 0 (Sl a29 x22.2.1 c30) x22.2.1) hR31 (fun _ h => h)
   clear hR31
   refine st_g (v := (.agg #[(I x22.1), (Sl a29 x22.2.1 c30), (I x22.2.2)])) (congrArg some hb21) (rv_load Try.underlying41 rfl ti41 rfl hl27 hc28) (st_g (v := (I Bd)) (congrArg some hb21) (rv_move rfl) ?_)
   revert h; refine br fun r32 hx33 h => ?_
   have hc34 := c_impl_placeOf_1 (Ak := a29) (Am := c30) hx33
   refine st_call (cx_call hc34 (ent_v (cap := []) hc34.fn rfl rfl) hn0 (H.sel' [0, 0, 1] rfl rfl : Hp S0 σ0 _ ([_] ++ _))) (wanted_yes rfl (by exact (congrArg some hb21))) ?_
   rintro _ σ35 ⟨_, ⟨rfl, rfl⟩, H, -⟩
   replace H : Hp _ _ _ [_, _] := H
   refine st_g (v := (B (r32 == 0))) (congrArg some hb21) (rv_eql (a := r32) (b := 0) rfl rfl) (st (v := (B (r32 == 0))) (rv_pick_t (congrArg B hb21) rfl) (sa (I o1) rfl (sa (B (r32 == 0)) rfl (w_end (q_then (c_ret ?_))))))
   obtain rfl := sj h
   exact fin_ret (v := (.tuple #[(I o1), (B (r32 == 0))])) (results_ok Try.results93 (res_tmp (v := (I o1)) rfl (res_tmp (v := (B (r32 == 0))) rfl res_nil)) rfl) ⟨rfl, rfl⟩ (H.sel' [] rfl rfl)
  ·replace h := bif_f hb21 h
   refine st_skip (congrArg some hb21) (st_skip (congrArg some hb21) (st_skip (congrArg some hb21) (st_skip (congrArg some hb21) (st_skip (congrArg some hb21) (st_skip (congrArg some hb21) (st_skip (congrArg some hb21) (st_skip (congrArg some hb21) (st (v := (B false)) (rv_pick_f (congrArg B hb21) rfl) (sa (I o1) rfl (sa (B false) rfl (w_end ?_)))))))))))
   refine q_then (c_ret ?_)
   obtain rfl := sj h
   exact fin_ret (v := (.tuple #[(I o1), (B false)])) (results_ok Try.results93 (res_tmp (v := (I o1)) rfl (res_tmp (v := (B false)) rfl res_nil)) rfl) ⟨rfl, rfl⟩ (H.sel' [] rfl rfl)

theorem c_impl_placeOf {Ao : List (Int × (List Int) × Int)} {Bc : Int} {Ap : Option Addr} {Aq : Nat} {r : Int × Bool} (h : M.impl_placeOf Ao Bc = some r) :
    Cal2 Try.prog 64 [(Sl Ap Ao Aq), (I Bc)] [Ch.ro 0 (Sl Ap Ao Aq) Ao] (fun n0 v L => v = (.tuple #[(I r.1), (B r.2)]) ∧ L = []) := by
 refine cal2 (n := 11) Try.func64 rfl rfl rfl rfl ?_
 intro S0 σ0 n0 hn0 H
 unfold M.impl_placeOf at h
 refine c_seq (rg (sa (I 0) rfl (sa (B false) rfl (w_end (q_then (c_seq (rg (sm (Sl Ap Ao Aq) rfl (sm (I Bc) rfl ?_)))))))))
 revert h; refine br fun r1 hx2 h => ?_
 have hc3 := c_slices_BinarySearchFunc_impl_Item_impl_Item_int__impl_placeOf_1 (Be := Ap) (Bf := Aq) hx2
 refine st_call (cx_call hc3 (ent_f hc3.fn rfl) hn0 (H.sel' [0, 0] rfl rfl : Hp S0 σ0 _ ([_] ++ _))) wn ?_
 rintro _ σ4 ⟨_, ⟨rfl, rfl⟩, H, -⟩
 replace H : Hp _ _ _ [_] := H
 refine st (v := (I r1.1)) (rv_extract rfl rfl) (st (v := (B r1.2)) (rv_extract rfl rfl) (sa (I r1.1) rfl (sa (B r1.2) rfl (w_end (q_then (c_ret ?_))))))
 obtain rfl := sj h
 exact fin_ret (v := (.tuple #[(I r1.1), (B r1.2)])) (results_ok Try.results64 (res_tmp (v := (I r1.1)) rfl (res_tmp (v := (B r1.2)) rfl res_nil)) rfl) ⟨rfl, rfl⟩ (H.sel' [] rfl rfl)

theorem c_slices_Delete_impl_Item_impl_Item {Ay : List (Int × (List Int) × Int)} {Bg : Int} {Bh : Int} {Az : Option Addr} {Ba : Nat} {r : (List (Int × (List Int) × Int))} (h : M.slices_Delete_impl_Item_impl_Item Ay Bg Bh = some r) :
    Cal2 Try.prog 137 [(Sl Az Ay Ba), (I Bg), (I Bh)] [Ch.own 0 0 (Sl Az Ay Ba) Ay] (fun n0 v L => ∃ (az1 : Option Addr), ∃ (cz2 : Nat), v = (Sl az1 r cz2) ∧ L = [Ch.own 0 0 (Sl az1 r cz2) r]) := by
 refine cal2 (n := 33) Try.func137 rfl rfl rfl rfl ?_
 intro S0 σ0 n0 hn0 H
 unfold M.slices_Delete_impl_Item_impl_Item at h
 refine c_seq (rg (sa (.slice none 0 0) rfl (w_end (q_then (c_seq (rg (sm (Sl Az Ay Ba) rfl (sm (I Bg) rfl (sm (I Bh) rfl (sm (Sl Az Ay Ba) rfl (st (v := (I (Ay.length : Int))) (rv_len Try.underlying33 rfl) ?_)))))))))))
 revert h; refine br fun o1 hx2 h => ?_
 refine st (v := (.slice (if ((Ay.length : Int)).toNat = (Bg).toNat then Az else (Az).map (·.add ((Bg).toNat * 3))) ((Bh).toNat - (Bg).toNat) (((Ay.length : Int)).toNat - (Bg).toNat))) (rv_slice3 Try.underlying33 ti41 hx2 (H.own 0 rfl).cap rfl rfl rfl rfl) (w_end (q_then (c_seq (c_seq (rg (sm (I Bg) rfl (sm (I Bh) rfl (st (v := (B (Bg == Bh))) (rv_eql (a := Bg) (b := Bh) rfl rfl) (w_end (q_then ?_))))))))))
 refine cd_cond (Bg == Bh) rfl (fun hb3 => ?_) (fun hb3 => ?_)
 ·replace h := bif_t hb3 h
  refine c_seq (rg (sm (Sl Az Ay Ba) rfl (sa (Sl Az Ay Ba) rfl (w_end (q_then (c_ret (q_then_r ?_)))))))
  obtain rfl := sj h
  exact fin_ret (v := (Sl Az Ay Ba)) (results_ok Try.results137 (res_tmp (v := (Sl Az Ay Ba)) rfl res_nil) rfl) ⟨Az, Ba, rfl, rfl⟩ (H.sel' [0] rfl rfl)
 ·replace h := bif_f hb3 h
  refine c_skip (q_then (c_seq (rg (sm (Sl Az Ay Ba) rfl (st (v := (I (Ay.length : Int))) (rv_len Try.underlying33 rfl) (sa (I (Ay.length : Int)) rfl (w_end (q_then (c_seq ?_)))))))))
  refine rgP (σ := σ0) 6 (by kernel_rfl) (by kernel_rfl) (by kernel_rfl) ?_
  refine sq (v := (Sl Az Ay Ba)) (rv_move rfl) (sq (v := (I Bg)) (rv_move rfl) ?_)
  revert h; refine br fun xs4 hx5 h => ?_
  obtain ⟨a6, c7, hs8, -⟩ := (H.own 0 rfl).slice hx5
  refine sq (v := (Sl a6 xs4 c7)) (rv_slice_h Try.underlying33 ti41 hs8 rfl rfl) (sq (v := (Sl Az Ay Ba)) (rv_move rfl) (sq (v := (I Bh)) (rv_move rfl) ?_))
  revert h; refine br fun xs10 hx11 h => ?_
  obtain ⟨a12, c13, hs14, -⟩ := (H.own 0 rfl).slice hx11
  refine sq (v := (Sl a12 xs10 c13)) (rv_slice_l Try.underlying33 ti41 hs14 rfl rfl) (sq_end ?_)
  intro σ16 hm17
  replace H := H.grow (hm17.mono fun _ h => h); clear hm17
  revert h; refine br fun xs18 hx19 h => ?_
  refine st_ex (ex_appV H (i := 0) rfl Try.underlying33 Try.underlying33 ti41 rfl rfl (by decide) hx5 hs8 ((H.own 0 rfl).view hx11 hs14).1.rd hx19 (Nat.zero_le _) rfl rfl) wn ?_
  rintro _ σ23 ⟨a20, c21, rfl, H, -, hf22⟩
  refine sa (Sl a20 xs18 c21) rfl (w_end (q_then (c_seq (rg (sm (Sl a20 xs18 c21) rfl (sm (Sl a20 xs18 c21) rfl (st (v := (I (xs18.length : Int))) (rv_len Try.underlying33 rfl) (sm (I (Ay.length : Int)) rfl ?_))))))))
  have hd30 := del_room hx5 hx11 (gthree_some hx2).2.1 hx19 hs8 hf22
  refine st (v := (.slice (if c21 = xs18.length then a20 else (a20).map (·.add (xs18.length * 3))) (Ay.length - xs18.length) (c21 - xs18.length))) (rv_sliceX (m0 := xs18.length) (k0 := Ay.length) Try.underlying33 ti41 hd30.1 hd30.2 rfl rfl rfl) ?_
  refine st_ex0 (ex_clearX (k0 := Ay.length) H (i := 0) rfl Try.underlying33 ti41 rfl rfl (by simp [plain, Value.cells]) hd30.1 hd30.2 rfl) wn ?_
  rintro _ σ31 ⟨rfl, H, -⟩
  refine w_end (q_then (c_seq (rg (sm (Sl a20 xs18 c21) rfl (sa (Sl a20 xs18 c21) rfl (w_end (q_then (c_ret ?_))))))))
  obtain rfl := sj h
  exact fin_ret (v := (Sl a20 xs18 c21)) (results_ok Try.results137 (res_tmp (v := (Sl a20 xs18 c21)) rfl res_nil) rfl) ⟨a20, c21, rfl, rfl⟩ (H.sel' [0] rfl rfl)

theorem c_impl_DropItem {Ao : List (Int × (List Int) × Int)} {Bc : Int} {Ap : Option Addr} {Aq : Nat} {r : (List (Int × (List Int) × Int)) × Bool} (h : M.impl_DropItem Ao Bc = some r) :
    Cal2 Try.prog 136 [(Sl Ap Ao Aq), (I Bc)] [Ch.ro 0 (Sl Ap Ao Aq) Ao] (fun n0 v L => ∃ (az1 : Option Addr), ∃ (cz2 : Nat), v = (.tuple #[(Sl az1 r.1 cz2), (B r.2)]) ∧ L = [Ch.own 0 0 (Sl az1 r.1 cz2) r.1]) := by
 refine cal2 (n := 25) Try.func136 rfl rfl rfl rfl ?_
 intro S0 σ0 n0 hn0 H
 unfold M.impl_DropItem at h
 refine c_seq (rg (sa (.slice none 0 0) rfl (sa (B false) rfl (w_end (q_then (c_seq (c_seq (rg (sm (Sl Ap Ao Aq) rfl ?_)))))))))
 revert h; refine br fun r1 hx2 h => ?_
 have hc3 := c_impl_ValidStore (Ap := Ap) (Aq := Aq) hx2
 refine st_call (cx_call hc3 (ent_f hc3.fn rfl) hn0 (H.sel' [0, 0] rfl rfl : Hp S0 σ0 _ ([_] ++ _))) wn ?_
 rintro _ σ4 ⟨_, ⟨rfl, rfl⟩, H, -⟩
 replace H : Hp _ _ _ [_] := H
 refine st (v := (B (!r1))) (rv_not rfl) (w_end (q_then ?_))
 refine cd_cond (!r1) rfl (fun hb5 => ?_) (fun hb5 => ?_)
 ·replace h := bif_t hb5 h
  refine c_seq (rg (sa (.slice none 0 0) rfl (sa (B false) rfl (w_end (q_then (c_ret (q_then_r ?_)))))))
  replace H := H.nilOwn (Int × (List Int) × Int) 0 0
  obtain rfl := sj h
  exact fin_ret (v := (.tuple #[(.slice none 0 0), (B false)])) (results_ok Try.results136 (res_tmp (v := (.slice none 0 0)) rfl (res_tmp (v := (B false)) rfl res_nil)) rfl) ⟨none, 0, rfl, rfl⟩ (H.sel' [0] rfl rfl)
 ·replace h := bif_f hb5 h
  refine c_skip (q_then (c_seq (rg (sm (Sl Ap Ao Aq) rfl (sm (I Bc) rfl ?_)))))
  revert h; refine br fun r6 hx7 h => ?_
  have hc8 := c_impl_placeOf (Ap := Ap) (Aq := Aq) hx7
  refine st_call (cx_call hc8 (ent_f hc8.fn rfl) hn0 (H.sel' [0, 0] rfl rfl : Hp S0 σ0 _ ([_] ++ _))) wn ?_
  rintro _ σ9 ⟨_, ⟨rfl, rfl⟩, H, -⟩
  replace H : Hp _ _ _ [_] := H
  refine sm (.tuple #[(I r6.1), (B r6.2)]) rfl (st (v := (I r6.1)) (rv_extract rfl rfl) (st (v := (B r6.2)) (rv_extract rfl rfl) (sa (I r6.1) rfl (sa (B r6.2) rfl (w_end (q_then (c_seq (c_seq (rg (sm (B r6.2) rfl (st (v := (B (!r6.2))) (rv_not rfl) ?_)))))))))))
  refine w_end (q_then ?_)
  refine cd_cond (!r6.2) rfl (fun hb10 => ?_) (fun hb10 => ?_)
  ·replace h := bif_t hb10 h
   refine c_seq (rg (sa (.slice none 0 0) rfl (sa (B false) rfl (w_end (q_then (c_ret (q_then_r ?_)))))))
   replace H := H.nilOwn (Int × (List Int) × Int) 0 0
   obtain rfl := sj h
   exact fin_ret (v := (.tuple #[(.slice none 0 0), (B false)])) (results_ok Try.results136 (res_tmp (v := (.slice none 0 0)) rfl (res_tmp (v := (B false)) rfl res_nil)) rfl) ⟨none, 0, rfl, rfl⟩ (H.sel' [0] rfl rfl)
  ·replace h := bif_f hb10 h
   refine c_skip (q_then (c_seq (rg (sm (Sl Ap Ao Aq) rfl ?_))))
   revert h; refine br fun r11 hx12 h => ?_
   have hc13 := c_impl_copyItems (Ap := Ap) (Aq := Aq) hx12
   refine st_call (cx_call hc13 (ent_f hc13.fn rfl) hn0 (H.sel' [0, 0] rfl rfl : Hp S0 σ0 _ ([_] ++ _))) wn ?_
   rintro _ σ17 ⟨_, ⟨a14, c15, rfl, rfl, ht16⟩, H, -⟩
   replace H : Hp _ _ _ [_, _] := H
   refine sm (I r6.1) rfl (sm (I r6.1) rfl (st (v := (I (w64 (r6.1 + 1)))) (rv_add (a := r6.1) (b := 1) rfl rfl) ?_))
   replace H := H.ownLow 0 0 0 rfl (Nat.zero_le _) (Nat.zero_le _)
   revert h; refine br fun r18 hx19 h => ?_
   have hc20 := c_slices_Delete_impl_Item_impl_Item (Az := a14) (Ba := c15) hx19
   refine st_call (cx_call hc20 (ent_f hc20.fn rfl) hn0 (H.sel' [0, 1] rfl rfl : Hp S0 σ0 _ ([_] ++ _))) wn ?_
   rintro _ σ23 ⟨_, ⟨a21, c22, rfl, rfl⟩, H, -⟩
   replace H : Hp _ _ _ [_, _] := H
   refine sa (Sl a21 r18 c22) rfl (sa (B true) rfl (w_end (q_then (c_ret ?_))))
   obtain rfl := sj h
   exact fin_ret (v := (.tuple #[(Sl a21 r18 c22), (B true)])) (results_ok Try.results136 (res_tmp (v := (Sl a21 r18 c22)) rfl (res_tmp (v := (B true)) rfl res_nil)) rfl) ⟨a21, c22, rfl, rfl⟩ (H.sel' [0] rfl rfl)

theorem c_impl_dropChange_apply {Bi : Int} {Bj : List (Int × (List Int) × Int)} {Bk : Option Addr} {Bl : Nat} {r : (List (Int × (List Int) × Int)) × Bool} (h : M.impl_dropChange_apply Bi Bj = some r) :
    Cal2 Try.prog 134 [(.agg #[(I Bi)]), (Sl Bk Bj Bl)] [Ch.ro 0 (Sl Bk Bj Bl) Bj] (fun n0 v L => ∃ (az1 : Option Addr), ∃ (cz2 : Nat), v = (.tuple #[(Sl az1 r.1 cz2), (B r.2)]) ∧ L = [Ch.own 0 0 (Sl az1 r.1 cz2) r.1]) := by
 refine cal2 (n := 12) Try.func134 rfl rfl rfl rfl ?_
 intro S0 σ0 n0 hn0 H
 unfold M.impl_dropChange_apply at h
 refine c_seq (rg (st_ex (ex_box (cs := [(I Bi)]) H hn0 rfl rfl) wn ?_))
 rintro _ σ2 ⟨b1, rfl, H, -⟩
 refine sa (.slice none 0 0) rfl (sa (B false) rfl (w_end (q_then (c_seq (rg (sm (Sl Bk Bj Bl) rfl (st (v := (pt b1 0)) (rv_fieldAddr (off := 0) (ft := 3) Try.underlying94 rfl ti3 rfl rfl) ?_)))))))
 have hc3 := H.cell (u := (I Bi)) (o' := 0) 0 0 rfl rfl rfl
 refine st (v := (I Bi)) (rv_load1 Try.underlying3 rfl rfl hc3) ?_
 revert h; refine br fun r4 hx5 h => ?_
 have hc6 := c_impl_DropItem (Ap := Bk) (Aq := Bl) hx5
 refine st_call (cx_call hc6 (ent_f hc6.fn rfl) hn0 (H.sel' [1, 0, 1] rfl rfl : Hp S0 σ0 _ ([_] ++ _))) wn ?_
 rintro _ σ9 ⟨_, ⟨a7, c8, rfl, rfl⟩, H, -⟩
 replace H : Hp _ _ _ [_, _, _] := H
 refine st (v := (Sl a7 r4.1 c8)) (rv_extract rfl rfl) (st (v := (B r4.2)) (rv_extract rfl rfl) (sa (Sl a7 r4.1 c8) rfl (sa (B r4.2) rfl (w_end (q_then (c_ret ?_))))))
 obtain rfl := sj h
 exact fin_ret (v := (.tuple #[(Sl a7 r4.1 c8), (B r4.2)])) (results_ok Try.results134 (res_tmp (v := (Sl a7 r4.1 c8)) rfl (res_tmp (v := (B r4.2)) rfl res_nil)) rfl) ⟨a7, c8, rfl, rfl⟩ (H.sel' [0] rfl rfl)

theorem c_slices_Insert_impl_Item_impl_Item {Ay : List (Int × (List Int) × Int)} {Bg : Int} {Bm : List (Int × (List Int) × Int)} {Az : Option Addr} {Ba : Nat} (Bn : Ba = Ay.length) {Bo : Option Addr} {Bp : Nat} {r : (List (Int × (List Int) × Int))} (h : M.slices_Insert_impl_Item_impl_Item Ay Bg Bm = some r) :
    Cal2 Try.prog 141 [(Sl Az Ay Ba), (I Bg), (Sl Bo Bm Bp)] [Ch.own 0 0 (Sl Az Ay Ba) Ay, Ch.ro 0 (Sl Bo Bm Bp) Bm] (fun n0 v L => ∃ (az1 : Option Addr), ∃ (cz2 : Nat), v = (Sl az1 r cz2) ∧ L = [Ch.own 0 0 (Sl az1 r cz2) r]) := by
 refine cal2 (n := 95) Try.func141 rfl rfl rfl rfl ?_
 intro S0 σ0 n0 hn0 H
 unfold M.slices_Insert_impl_Item_impl_Item at h
 refine c_seq (rg (sa (.slice none 0 0) rfl (w_end (q_then (c_seq (rg (sm (Sl Az Ay Ba) rfl (sm (I Bg) rfl ?_))))))))
 revert h; refine br fun xs1 hx2 h => ?_
 obtain ⟨a3, c4, hs5, -⟩ := (H.own 0 rfl).slice hx2
 refine st (v := (Sl a3 xs1 c4)) (rv_slice_l Try.underlying33 ti41 hs5 rfl rfl) (w_end (q_then (c_seq (rg (sm (Sl Bo Bm Bp) rfl (st (v := (I (Bm.length : Int))) (rv_len Try.underlying33 rfl) (sa (I (Bm.length : Int)) rfl (w_end (q_then (c_seq (c_seq ?_)))))))))))
 refine rg (sm (I (Bm.length : Int)) rfl (st (v := (B ((Bm.length : Int) == 0))) (rv_eql (a := (Bm.length : Int)) (b := 0) rfl rfl) (w_end (q_then ?_))))
 refine cd_cond ((Bm.length : Int) == 0) rfl (fun hb7 => ?_) (fun hb7 => ?_)
 ·replace h := bif_t hb7 h
  refine c_seq (rg (sm (Sl Az Ay Ba) rfl (sa (Sl Az Ay Ba) rfl (w_end (q_then (c_ret (q_then_r ?_)))))))
  obtain rfl := sj h
  exact fin_ret (v := (Sl Az Ay Ba)) (results_ok Try.results141 (res_tmp (v := (Sl Az Ay Ba)) rfl res_nil) rfl) ⟨Az, Ba, rfl, rfl⟩ (H.sel' [0] rfl rfl)
 ·replace h := bif_f hb7 h
  refine c_skip (q_then (c_seq (rg (sm (Sl Az Ay Ba) rfl (st (v := (I (Ay.length : Int))) (rv_len Try.underlying33 rfl) (sa (I (Ay.length : Int)) rfl (w_end (q_then (c_seq (c_seq (rg ?_)))))))))))
  refine sm (I Bg) rfl (sm (I (Ay.length : Int)) rfl (st (v := (B (Bg == (Ay.length : Int)))) (rv_eql (a := Bg) (b := (Ay.length : Int)) rfl rfl) (w_end (q_then ?_))))
  refine cd_cond (Bg == (Ay.length : Int)) rfl (fun hb8 => ?_) (fun hb8 => ?_)
  ·replace h := bif_t hb8 h
   refine c_seq (rg (sm (Sl Az Ay Ba) rfl (sm (Sl Bo Bm Bp) rfl ?_)))
   revert h; refine br fun xs9 hx10 h => ?_
   refine st_ex (ex_append H (i := 0) rfl Try.underlying33 Try.underlying33 ti41 rfl rfl (by decide) (H.ro 1 rfl).rd hx10 (Nat.zero_le _) rfl rfl) wn ?_
   rintro _ σ13 ⟨a11, c12, rfl, H, -⟩
   refine sa (Sl a11 xs9 c12) rfl (w_end (q_then (c_ret (q_then_r ?_))))
   obtain rfl := sj h
   exact fin_ret (v := (Sl a11 xs9 c12)) (results_ok Try.results141 (res_tmp (v := (Sl a11 xs9 c12)) rfl res_nil) rfl) ⟨a11, c12, rfl, rfl⟩ (H.sel' [0] rfl rfl)
  ·replace h := bif_f hb8 h
   refine c_skip (q_then (c_seq (c_seq (rg (sm (I (Ay.length : Int)) rfl (sm (I (Bm.length : Int)) rfl (st (v := (I (w64 ((Ay.length : Int) + (Bm.length : Int))))) (rv_add (a := (Ay.length : Int)) (b := (Bm.length : Int)) rfl rfl) (sm (Sl Az Ay Ba) rfl (st (v := (I (Ay.length : Int))) (rv_cap Try.underlying33 rfl Bn) (st (v := (B (decide ((Ay.length : Int) < (w64 ((Ay.length : Int) + (Bm.length : Int))))))) (rv_gtr (a := (w64 ((Ay.length : Int) + (Bm.length : Int)))) (b := (Ay.length : Int)) rfl rfl) (w_end ?_)))))))))))
   refine q_then ?_
   refine cd_cond (decide ((Ay.length : Int) < (w64 ((Ay.length : Int) + (Bm.length : Int))))) rfl (fun hb14 => ?_) (fun hb14 => ?_)
   ·replace h := bif_t hb14 h
    refine c_seq (rg (sm (Sl Az Ay Ba) rfl (sm (I Bg) rfl ?_)))
    revert h; refine br fun xs15 hx16 h => ?_
    obtain ⟨a17, c18, hs19, -⟩ := (H.own 0 rfl).slice hx16
    refine st (v := (Sl a17 xs15 c18)) (rv_slice_h Try.underlying33 ti41 hs19 rfl rfl) (sm (I (Ay.length : Int)) rfl (sm (I (Bm.length : Int)) rfl (st (v := (I (w64 ((Ay.length : Int) + (Bm.length : Int))))) (rv_add (a := (Ay.length : Int)) (b := (Bm.length : Int)) rfl rfl) (sm (I Bg) rfl (st (v := (I (w64 ((w64 ((Ay.length : Int) + (Bm.length : Int))) - Bg)))) (rv_sub (a := (w64 ((Ay.length : Int) + (Bm.length : Int)))) (b := Bg) rfl rfl) ?_)))))
    revert h; refine br fun xs21 hx22 h => ?_
    refine st_ex (ex_appZ (z0 := ((0, [], 0) : Int × (List Int) × Int)) (zs := [(I 0), (.slice none 0 0), (I 0)]) H (i := 0) rfl Try.underlying33 Try.underlying3 ti41 rfl rfl (⟨[(I 0)], [(.slice none 0 0), (I 0)], rfl, rfl, ⟨[(.slice none 0 0)], [(I 0)], rfl, ⟨_, rfl, RS.nil⟩, rfl⟩⟩) (by decide) Bn hx16 hs19 hx22 (app_new (by have := gslice_some hx16; omega) (gslice_some hx16).2.2.1 hb14) hn0 rfl rfl) wn ?_
    rintro _ σ25 ⟨b23, c24, rfl, H, -⟩
    refine sa (Sl (some ⟨b23, 0, none⟩) xs21 c24) rfl (w_end (q_then (c_seq (rg (sm (Sl (some ⟨b23, 0, none⟩) xs21 c24) rfl (sm (I Bg) rfl ?_))))))
    revert h; refine br fun xs26 hx27 h => ?_
    obtain ⟨a28, c29, hs30, -⟩ := (H.own 0 rfl).slice hx27
    refine st (v := (Sl a28 xs26 c29)) (rv_slice_l Try.underlying33 ti41 hs30 rfl rfl) (sm (Sl Bo Bm Bp) rfl (st_ex (ex_copyV H (i := 0) rfl Try.underlying33 ti41 rfl hx27 hs30 (H.ro 2 rfl).rd rfl rfl) wn ?_))
    rintro _ σ32 ⟨rfl, H, -⟩
    have hsl : (Sl (some ⟨b23, 0, none⟩) xs21 c24) = (Sl (some ⟨b23, 0, none⟩) (gcopyAt xs21 (Bg).toNat xs26.length Bm) c24) := sl_len (gcopyAt_len (by have := gslice_some hx27; omega)).symm
    rw [hsl]; rw [hsl] at H; clear hsl
    refine w_end (q_then (c_seq ?_))
    refine rgP (σ := σ32) 8 (by kernel_rfl) (by kernel_rfl) (by kernel_rfl) ?_
    refine sq (v := (Sl (some ⟨b23, 0, none⟩) (gcopyAt xs21 (Bg).toNat xs26.length Bm) c24)) (rv_move rfl) (sq (v := (I Bg)) (rv_move rfl) (sq (v := (I (Bm.length : Int))) (rv_move rfl) (sq (v := (I (w64 (Bg + (Bm.length : Int))))) (rv_add (a := Bg) (b := (Bm.length : Int)) rfl rfl) ?_)))
    revert h; refine br fun xs33 hx34 h => ?_
    obtain ⟨a35, c36, hs37, -⟩ := (H.own 0 rfl).slice hx34
    refine sq (v := (Sl a35 xs33 c36)) (rv_slice_l Try.underlying33 ti41 hs37 rfl rfl) (sq (v := (Sl Az Ay Ba)) (rv_move rfl) (sq (v := (I Bg)) (rv_move rfl) ?_))
    revert h; refine br fun xs39 hx40 h => ?_
    obtain ⟨a41, c42, hs43, -⟩ := (H.own 1 rfl).slice hx40
    refine sq (v := (Sl a41 xs39 c42)) (rv_slice_l Try.underlying33 ti41 hs43 rfl rfl) (sq_end ?_)
    intro σ45 hm46
    replace H := H.grow (hm46.mono fun _ h => h); clear hm46
    refine st_ex (ex_copyV H (i := 0) rfl Try.underlying33 ti41 rfl hx34 hs37 ((H.own 1 rfl).view hx40 hs43).1.rd rfl rfl) wn ?_
    rintro _ σ47 ⟨rfl, H, -⟩
    have hsl : (Sl (some ⟨b23, 0, none⟩) (gcopyAt xs21 (Bg).toNat xs26.length Bm) c24) = (Sl (some ⟨b23, 0, none⟩) (gcopyAt (gcopyAt xs21 (Bg).toNat xs26.length Bm) (w64 (Bg + (Bm.length : Int))).toNat xs33.length xs39) c24) := sl_len (gcopyAt_len (by have := gslice_some hx34; omega)).symm
    rw [hsl]; rw [hsl] at H; clear hsl
    refine w_end (q_then (c_seq (rg (sm (Sl (some ⟨b23, 0, none⟩) (gcopyAt (gcopyAt xs21 (Bg).toNat xs26.length Bm) (w64 (Bg + (Bm.length : Int))).toNat xs33.length xs39) c24) rfl (sa (Sl (some ⟨b23, 0, none⟩) (gcopyAt (gcopyAt xs21 (Bg).toNat xs26.length Bm) (w64 (Bg + (Bm.length : Int))).toNat xs33.length xs39) c24) rfl (w_end (q_then (c_ret (q_then_r ?_)))))))))
    replace H := H.ownLow 0 0 0 rfl (Nat.zero_le _) (Nat.le_refl _)
    obtain rfl := sj h
    exact fin_ret (v := (Sl (some ⟨b23, 0, none⟩) (gcopyAt (gcopyAt xs21 (Bg).toNat xs26.length Bm) (w64 (Bg + (Bm.length : Int))).toNat xs33.length xs39) c24)) (results_ok Try.results141 (res_tmp (v := (Sl (some ⟨b23, 0, none⟩) (gcopyAt (gcopyAt xs21 (Bg).toNat xs26.length Bm) (w64 (Bg + (Bm.length : Int))).toNat xs33.length xs39) c24)) rfl res_nil) rfl) ⟨(some ⟨b23, 0, none⟩), c24, rfl, rfl⟩ (H.sel' [0] rfl rfl)
   ·replace h := bif_f hb14 h
    cases h

theorem c_impl_PutItem {Ao : List (Int × (List Int) × Int)} {Bq : Int × (List Int) × Int} {Ap : Option Addr} {Aq : Nat} {Br : Option Addr} {Bs : Nat} {r : (List (Int × (List Int) × Int)) × Bool} (h : M.impl_PutItem Ao Bq = some r) :
    Cal2 Try.prog 140 [(Sl Ap Ao Aq), (.agg #[(I Bq.1), (Sl Br Bq.2.1 Bs), (I Bq.2.2)])] [Ch.ro 0 (Sl Ap Ao Aq) Ao, Ch.ro 0 (Sl Br Bq.2.1 Bs) Bq.2.1] (fun n0 v L => ∃ (az1 : Option Addr), ∃ (cz2 : Nat), v = (.tuple #[(Sl az1 r.1 cz2), (B r.2)]) ∧ L = [Ch.own 0 0 (Sl az1 r.1 cz2) r.1]) := by
 refine cal2 (n := 43) Try.func140 rfl rfl rfl rfl ?_
 intro S0 σ0 n0 hn0 H
 unfold M.impl_PutItem at h
 refine c_seq (rg (st_ex (ex_box (cs := [(I Bq.1), (Sl Br Bq.2.1 Bs), (I Bq.2.2)]) H hn0 rfl rfl) wn ?_))
 rintro _ σ2 ⟨b1, rfl, H, -⟩
 refine sa (.slice none 0 0) rfl (sa (B false) rfl (w_end (q_then (c_seq (c_seq ?_)))))
 obtain ⟨o3, hj, h'⟩ := bind_some h
 clear h
 refine c_cut (fun e a w => e = .normal ∧ ∃ (ρ : Nat → Value) (σ : St), a = fr 43 (updL ρ [(0, (Sl Ap Ao Aq)), (3, (pt b1 0)), (16, (B o3))]) ∧ w = σ.w ∧ Hp S0 σ0 σ [Ch.ro 0 (Sl Ap Ao Aq) Ao, Ch.ro 0 (Sl Br Bq.2.1 Bs) Bq.2.1, Ch.bx n0 b1 0 [(I Bq.1), (Sl Br Bq.2.1 Bs), (I Bq.2.2)] [] []]) ?_ ?_
 ·clear h'
  rename _ = some o3 => h
  refine rg (sm (Sl Ap Ao Aq) rfl ?_)
  revert h; refine br fun r4 hx5 h => ?_
  have hc6 := c_impl_ValidStore (Ap := Ap) (Aq := Aq) hx5
  refine st_call (cx_call hc6 (ent_f hc6.fn rfl) hn0 (H.sel' [1, 0, 1, 2] rfl rfl : Hp S0 σ0 _ ([_] ++ _))) wn ?_
  rintro _ σ7 ⟨_, ⟨rfl, rfl⟩, H, -⟩
  replace H : Hp _ _ _ [_, _, _] := H
  refine st (v := (B (!r4))) (rv_not rfl) (sm (B (!r4)) rfl ?_)
  rcases Bool.eq_false_or_eq_true (!r4) with hb8 | hb8
  ·replace h := bif_t hb8 h
   refine st_skip (congrArg some hb8) (st_skip (congrArg some hb8) (st_skip (congrArg some hb8) (st (v := (B true)) (rv_pick_t (congrArg B hb8) rfl) (w_end ?_))))
   obtain rfl := sj h
   exact ⟨rfl, _, σ7, fr_join ⟨rfl, rfl, rfl, trivial⟩, rfl, H.sel' [1, 2, 0] rfl rfl⟩
  ·replace h := bif_f hb8 h
   have hc9 := H.cells 0 rfl
   refine st_g (v := (.agg #[(I Bq.1), (Sl Br Bq.2.1 Bs), (I Bq.2.2)])) (congrArg some hb8) (rv_load (cs := [(I Bq.1), (Sl Br Bq.2.1 Bs), (I Bq.2.2)]) Try.underlying41 rfl ti41 rfl rfl hc9) ?_
   revert h; refine br fun r10 hx11 h => ?_
   have hc12 := c_impl_validItem (Ak := Br) (Am := Bs) hx11
   refine st_call (cx_call hc12 (ent_f hc12.fn rfl) hn0 (H.sel' [2, 0, 1, 2] rfl rfl : Hp S0 σ0 _ ([_] ++ _))) (wanted_yes rfl (by exact (congrArg some hb8))) ?_
   rintro _ σ13 ⟨_, ⟨rfl, rfl⟩, H, -⟩
   replace H : Hp _ _ _ [_, _, _] := H
   refine st_g (v := (B (!r10))) (congrArg some hb8) (rv_not rfl) (st (v := (B (!r10))) (rv_pick_f (congrArg B hb8) rfl) (w_end ?_))
   obtain rfl := sj h
   exact ⟨rfl, _, σ13, fr_join ⟨rfl, rfl, rfl, trivial⟩, rfl, H.sel' [1, 2, 0] rfl rfl⟩
 ·clear hj
  have h := h'
  clear h' H
  rintro e a w ⟨rfl, ρ, σ14, rfl, rfl, H⟩
  refine q_then ?_
  refine cd_cond o3 rfl (fun hb15 => ?_) (fun hb15 => ?_)
  ·replace h := bif_t hb15 h
   refine c_seq (rg (sa (.slice none 0 0) rfl (sa (B false) rfl (w_end (q_then (c_ret (q_then_r ?_)))))))
   replace H := H.nilOwn (Int × (List Int) × Int) 0 0
   obtain rfl := sj h
   exact fin_ret (v := (.tuple #[(.slice none 0 0), (B false)])) (results_ok Try.results140 (res_tmp (v := (.slice none 0 0)) rfl (res_tmp (v := (B false)) rfl res_nil)) rfl) ⟨none, 0, rfl, rfl⟩ (H.sel' [0] rfl rfl)
  ·replace h := bif_f hb15 h
   refine c_skip (q_then (c_seq (rg (sm (Sl Ap Ao Aq) rfl (st (v := (pt b1 0)) (rv_fieldAddr (off := 0) (ft := 3) Try.underlying41 rfl ti3 rfl rfl) ?_)))))
   have hc16 := H.cell (u := (I Bq.1)) (o' := 0) 2 0 rfl rfl rfl
   refine st (v := (I Bq.1)) (rv_load1 Try.underlying3 rfl rfl hc16) ?_
   revert h; refine br fun r17 hx18 h => ?_
   have hc19 := c_impl_placeOf (Ap := Ap) (Aq := Aq) hx18
   refine st_call (cx_call hc19 (ent_f hc19.fn rfl) hn0 (H.sel' [0, 0, 1, 2] rfl rfl : Hp S0 σ0 _ ([_] ++ _))) wn ?_
   rintro _ σ20 ⟨_, ⟨rfl, rfl⟩, H, -⟩
   replace H : Hp _ _ _ [_, _, _] := H
   refine sm (.tuple #[(I r17.1), (B r17.2)]) rfl (st (v := (I r17.1)) (rv_extract rfl rfl) (st (v := (B r17.2)) (rv_extract rfl rfl) (sa (I r17.1) rfl (sa (B r17.2) rfl (w_end (q_then (c_seq (c_seq (rg (sm (B r17.2) rfl (w_end ?_)))))))))))
   refine q_then ?_
   refine cd_cond r17.2 rfl (fun hb21 => ?_) (fun hb21 => ?_)
   ·replace h := bif_t hb21 h
    refine c_seq (rg (sm (Sl Ap Ao Aq) rfl ?_))
    revert h; refine br fun r22 hx23 h => ?_
    have hc24 := c_impl_copyItems (Ap := Ap) (Aq := Aq) hx23
    refine st_call (cx_call hc24 (ent_f hc24.fn rfl) hn0 (H.sel' [0, 0, 1, 2] rfl rfl : Hp S0 σ0 _ ([_] ++ _))) wn ?_
    rintro _ σ28 ⟨_, ⟨a25, c26, rfl, rfl, ht27⟩, H, -⟩
    replace H : Hp _ _ _ [_, _, _, _] := H
    refine sa (Sl a25 r22 c26) rfl (w_end (q_then (c_seq (rg (sm (Sl a25 r22 c26) rfl (sm (I r17.1) rfl ?_))))))
    have hc29 := H.cells 3 rfl
    refine st (v := (.agg #[(I Bq.1), (Sl Br Bq.2.1 Bs), (I Bq.2.2)])) (rv_load (cs := [(I Bq.1), (Sl Br Bq.2.1 Bs), (I Bq.2.2)]) Try.underlying41 rfl ti41 rfl rfl hc29) ?_
    revert h; refine br fun r30 hx31 h => ?_
    have hc32 := c_impl_copyItem (Ak := Br) (Am := Bs) hx31
    refine st_call (cx_call hc32 (ent_f hc32.fn rfl) hn0 (H.sel' [2, 0, 1, 2, 3] rfl rfl : Hp S0 σ0 _ ([_] ++ _))) wn ?_
    rintro _ σ35 ⟨_, ⟨a33, c34, rfl, rfl⟩, H, -⟩
    replace H : Hp _ _ _ [_, _, _, _, _] := H
    revert h; refine br fun x36 hx37 h => ?_
    obtain ⟨b39, o40, hi38, -⟩ := (H.own 1 rfl).ix hx37
    refine st (v := (pt b39 o40)) (rv_ix Try.underlying33 ti41 rfl rfl hi38) ?_
    obtain ⟨σ41, hw42, H, -⟩ := H.pub 0 rfl (Nat.le_refl _)
    rw [← hw42]; clear hw42
    refine st_exS (ex_store_own (e' := (r30.1, r30.2.1, r30.2.2)) (vs := [(I r30.1), (Sl a33 r30.2.1 c34), (I r30.2.2)]) (k := 0) H (i := 1) rfl ti41 hx37 hi38 rfl rfl rfl rfl rfl (Nat.le_of_ble_eq_true rfl) (by simp [plain]) (by rintro _ ⟨_, _, rfl, rfl, ⟨_, _, rfl, ⟨_, rfl, hR45⟩, rfl⟩⟩; exact ⟨[(I r30.1)], [(Sl a33 r30.2.1 c34), (I r30.2.2)], rfl, rfl, ⟨[(Sl a33 r30.2.1 c34)], [(I r30.2.2)], rfl, ⟨_, rfl, (H.ro 0 rfl)⟩, rfl⟩⟩)) wn ?_
    rintro σ46 ⟨H, -⟩
    have hsl : (Sl a25 r22 c26) = (Sl a25 (r22.set r17.1.toNat (r30.1, r30.2.1, r30.2.2)) c26) := sl_len List.length_set.symm
    rw [hsl]; rw [hsl] at H; clear hsl
    refine w_end (q_then (c_seq (rg (sm (Sl a25 (r22.set r17.1.toNat (r30.1, r30.2.1, r30.2.2)) c26) rfl (sa (Sl a25 (r22.set r17.1.toNat (r30.1, r30.2.1, r30.2.2)) c26) rfl (sa (B true) rfl (w_end (q_then (c_ret (q_then_r ?_))))))))))
    replace H := H.ownLow 0 0 0 rfl (Nat.zero_le _) (Nat.zero_le _)
    obtain rfl := sj h
    exact fin_ret (v := (.tuple #[(Sl a25 (r22.set r17.1.toNat (r30.1, r30.2.1, r30.2.2)) c26), (B true)])) (results_ok Try.results140 (res_tmp (v := (Sl a25 (r22.set r17.1.toNat (r30.1, r30.2.1, r30.2.2)) c26)) rfl (res_tmp (v := (B true)) rfl res_nil)) rfl) ⟨a25, c26, rfl, rfl⟩ (H.sel' [0] rfl rfl)
   ·replace h := bif_f hb21 h
    refine c_skip (q_then (c_seq (c_seq (rg (sm (Sl Ap Ao Aq) rfl (st (v := (I (Ao.length : Int))) (rv_len Try.underlying33 rfl) (st (v := (B ((Ao.length : Int) == 16))) (rv_eql (a := (Ao.length : Int)) (b := 16) rfl rfl) (w_end (q_then ?_)))))))))
    refine cd_cond ((Ao.length : Int) == 16) rfl (fun hb47 => ?_) (fun hb47 => ?_)
    ·replace h := bif_t hb47 h
     refine c_seq (rg (sa (.slice none 0 0) rfl (sa (B false) rfl (w_end (q_then (c_ret (q_then_r ?_)))))))
     replace H := H.nilOwn (Int × (List Int) × Int) 0 0
     obtain rfl := sj h
     exact fin_ret (v := (.tuple #[(.slice none 0 0), (B false)])) (results_ok Try.results140 (res_tmp (v := (.slice none 0 0)) rfl (res_tmp (v := (B false)) rfl res_nil)) rfl) ⟨none, 0, rfl, rfl⟩ (H.sel' [0] rfl rfl)
    ·replace h := bif_f hb47 h
     refine c_skip (q_then (c_seq ?_))
     revert h; refine br fun r48 hx49 h => ?_
     have hc50 := c_impl_copyItems (Ap := Ap) (Aq := Aq) hx49
     have hc54 := H.cells 2 rfl
     revert h; refine br fun r55 hx56 h => ?_
     have hc57 := c_impl_copyItem (Ak := Br) (Am := Bs) hx56
     have Hs := H
     refine rg2 (σ := σ20) (Nm := (Option Addr) × (Nat) × (Option Addr) × (Nat) × (Nat)) 6 [1, 4, 5] [[false, false, false], [true, false, false], [true, true, false], [true, true, true]] [[(0, 0)], [(0, 1)], [(0, 0), (1, 1), (2, 2), (3, 3)], [(0, 0), (1, 1)], [(1, 2)], [(2, 3)]] 3 [fun ((a51, c52, a58, c59, b60) : (Option Addr) × (Nat) × (Option Addr) × (Nat) × (Nat)) => fun σm => Hp S0 σ0 σm [Ch.ro 0 (Sl Ap Ao Aq) Ao, Ch.ro 0 (Sl Br Bq.2.1 Bs) Bq.2.1, Ch.bx n0 b1 0 [(I Bq.1), (Sl Br Bq.2.1 Bs), (I Bq.2.2)] [] []] ∧ Md (cov []) σ20 σm, fun ((a51, c52, a58, c59, b60) : (Option Addr) × (Nat) × (Option Addr) × (Nat) × (Nat)) => fun σm => Hp S0 σ0 σm [Ch.own n0 n0 (Sl a51 r48 c52) r48, Ch.ro 0 (Sl Ap Ao Aq) Ao, Ch.ro 0 (Sl Br Bq.2.1 Bs) Bq.2.1, Ch.bx n0 b1 0 [(I Bq.1), (Sl Br Bq.2.1 Bs), (I Bq.2.2)] [] []] ∧ Md (cov []) σ20 σm ∧ c52 = r48.length, fun ((a51, c52, a58, c59, b60) : (Option Addr) × (Nat) × (Option Addr) × (Nat) × (Nat)) => fun σm => Hp S0 σ0 σm [Ch.ro n0 (Sl a58 r55.2.1 c59) r55.2.1, Ch.own n0 n0 (Sl a51 r48 c52) r48, Ch.ro 0 (Sl Ap Ao Aq) Ao, Ch.ro 0 (Sl Br Bq.2.1 Bs) Bq.2.1, Ch.bx n0 b1 0 [(I Bq.1), (Sl Br Bq.2.1 Bs), (I Bq.2.2)] [] []] ∧ Md (fun i => (cov []) i ∨ (fun i => (cov [Ch.ro 0 (Sl Br Bq.2.1 Bs) Bq.2.1]) i ∨ (fun b => blk (Sl a58 r55.2.1 c59) = some b) i) i) σ20 σm ∧ c52 = r48.length, fun ((a51, c52, a58, c59, b60) : (Option Addr) × (Nat) × (Option Addr) × (Nat) × (Nat)) => fun σm => Hp S0 σ0 σm [Ch.own n0 n0 (Sl (some ⟨b60, 0, none⟩) ([(r55.1, r55.2.1, r55.2.2)] : List (Int × (List Int) × Int)) 1) ([(r55.1, r55.2.1, r55.2.2)] : List (Int × (List Int) × Int)), Ch.ro n0 (Sl a58 r55.2.1 c59) r55.2.1, Ch.own n0 n0 (Sl a51 r48 c52) r48, Ch.ro 0 (Sl Ap Ao Aq) Ao, Ch.ro 0 (Sl Br Bq.2.1 Bs) Bq.2.1, Ch.bx n0 b1 0 [(I Bq.1), (Sl Br Bq.2.1 Bs), (I Bq.2.2)] [] []] ∧ Md (fun i => (cov []) i ∨ (fun i => (cov [Ch.ro 0 (Sl Br Bq.2.1 Bs) Bq.2.1]) i ∨ (fun b => blk (Sl a58 r55.2.1 c59) = some b) i) i) σ20 σm ∧ c52 = r48.length] [fun ((a51, c52, a58, c59, b60) : (Option Addr) × (Nat) × (Option Addr) × (Nat) × (Nat)) => (Sl Ap Ao Aq), fun ((a51, c52, a58, c59, b60) : (Option Addr) × (Nat) × (Option Addr) × (Nat) × (Nat)) => (Sl a51 r48 c52), fun ((a51, c52, a58, c59, b60) : (Option Addr) × (Nat) × (Option Addr) × (Nat) × (Nat)) => (I r17.1), fun ((a51, c52, a58, c59, b60) : (Option Addr) × (Nat) × (Option Addr) × (Nat) × (Nat)) => (.agg #[(I Bq.1), (Sl Br Bq.2.1 Bs), (I Bq.2.2)]), fun ((a51, c52, a58, c59, b60) : (Option Addr) × (Nat) × (Option Addr) × (Nat) × (Nat)) => (.agg #[(I r55.1), (Sl a58 r55.2.1 c59), (I r55.2.2)]), fun ((a51, c52, a58, c59, b60) : (Option Addr) × (Nat) × (Option Addr) × (Nat) × (Nat)) => (Sl (some ⟨b60, 0, none⟩) ([(r55.1, r55.2.1, r55.2.2)] : List (Int × (List Int) × Int)) 1)] (none, 0, none, 0, 0) (by kernel_rfl) (by kernel_rfl) ?_ ?_ ?_
     ·intro σm m0
      exact ⟨H.grow (m0.mono fun _ h => h.elim), m0⟩
     ·refine ac rfl (by
        intro k; rintro ⟨a51, c52, a58, c59, b60⟩ ρ σm hJ hoff hdep
        have e0 := look_off (N := 43) (hoff 0 rfl) rfl
        exact dp_v (v := (Sl Ap Ao Aq)) wn (rv_move e0) rfl hJ) ?_
      refine all_cons (by
        refine ⟨?_, ?_⟩
        ·rintro ⟨a51, c52, a58, c59, b60⟩ ρ σm hJ hoff hdep
         have e36 : look 43 ρ 36 = (Sl Ap Ao Aq) := hdep 0 rfl rfl 36 rfl
         obtain ⟨H, m⟩ := id hJ
         refine dp_cx wn (cx_call hc50 (ent_f hc50.fn (by show [look 43 ρ 36] = _; rw [e36])) hn0 (H.sel' [0, 0, 1, 2] rfl rfl : Hp S0 σ0 _ ([_] ++ _))) ?_
         rintro _ σq ⟨_, ⟨a51x, c52x, rfl, rfl, ht53⟩, H2, m2⟩
         exact ⟨_, (a51x, c52x, a58, c59, b60), rfl, rfl, ⟨H2.sel' [0, 1, 2, 3] rfl rfl, m.comp0 (m2.mono (fun i h => by simp [cov, Ch.ro] at h)), ht53⟩, stab [0, 2, 3] (by kernel_rfl) ⟨rfl, rfl, rfl, trivial⟩⟩
        trivial) ?_
      refine ac rfl (by
        intro k; rintro ⟨a51, c52, a58, c59, b60⟩ ρ σm hJ hoff hdep
        have e6 := look_off (N := 43) (hoff 6 rfl) rfl
        exact dp_v (v := (I r17.1)) wn (rv_move e6) rfl hJ) ?_
      refine all_cons (by
        refine ⟨?_, ?_⟩
        ·rintro ⟨a51, c52, a58, c59, b60⟩ ρ σm hJ hoff hdep
         have e3 := look_off (N := 43) (hoff 3 rfl) rfl
         obtain ⟨H, m⟩ := id hJ
         have hc54 := H.cells 2 rfl
         exact dp_v (v := (.agg #[(I Bq.1), (Sl Br Bq.2.1 Bs), (I Bq.2.2)])) wn (rv_load (cs := [(I Bq.1), (Sl Br Bq.2.1 Bs), (I Bq.2.2)]) Try.underlying41 rfl ti41 e3 rfl hc54) rfl hJ
        refine ⟨?_, ?_⟩
        ·rintro ⟨a51, c52, a58, c59, b60⟩ ρ σm hJ hoff hdep
         have e3 := look_off (N := 43) (hoff 3 rfl) rfl
         obtain ⟨H, m, ht53⟩ := id hJ
         have hc54 := H.cells 3 rfl
         exact dp_v (v := (.agg #[(I Bq.1), (Sl Br Bq.2.1 Bs), (I Bq.2.2)])) wn (rv_load (cs := [(I Bq.1), (Sl Br Bq.2.1 Bs), (I Bq.2.2)]) Try.underlying41 rfl ti41 e3 rfl hc54) rfl hJ
        trivial) ?_
      refine all_cons (by
        refine ⟨?_, ?_⟩
        ·rintro ⟨a51, c52, a58, c59, b60⟩ ρ σm hJ hoff hdep
         have e39 : look 43 ρ 39 = (.agg #[(I Bq.1), (Sl Br Bq.2.1 Bs), (I Bq.2.2)]) := hdep 3 rfl rfl 39 rfl
         obtain ⟨H, m, ht53⟩ := id hJ
         refine dp_cx wn (cx_call hc57 (ent_f hc57.fn (by show [look 43 ρ 39] = _; rw [e39])) hn0 (H.sel' [2, 0, 1, 2, 3] rfl rfl : Hp S0 σ0 _ ([_] ++ _))) ?_
         rintro _ σq ⟨_, ⟨a58x, c59x, rfl, rfl⟩, H2, m2⟩
         obtain ⟨σr0, hwr0, H2, mr0⟩ := H2.pub 0 rfl (Nat.le_refl _)
         exact ⟨_, (a51, c52, a58x, c59x, b60), hwr0, rfl, ⟨H2.sel' [0, 1, 2, 3, 4] rfl rfl, m.comp (m2.comp mr0), ht53⟩, stab [0, 1, 2, 3] (by kernel_rfl) ⟨rfl, rfl, rfl, rfl, trivial⟩⟩
        trivial) ?_
      refine all_cons (by
        refine ⟨?_, ?_⟩
        ·rintro ⟨a51, c52, a58, c59, b60⟩ ρ σm hJ hoff hdep
         have e40 : look 43 ρ 40 = (.agg #[(I r55.1), (Sl a58 r55.2.1 c59), (I r55.2.2)]) := hdep 4 rfl rfl 40 rfl
         obtain ⟨H, m, ht53⟩ := id hJ
         refine dp_ex wn (ex_buildSlice (el := n0) (xs := ([(r55.1, r55.2.1, r55.2.2)] : List (Int × (List Int) × Int))) (ps := [(0, (.agg #[(I r55.1), (Sl a58 r55.2.1 c59), (I r55.2.2)]))]) (cs := [(I r55.1), (Sl a58 r55.2.1 c59), (I r55.2.2)]) H hn0 Try.underlying33 ti41 rfl (by show [(0, look 43 ρ 40)] = _; rw [e40]) (by kernel_rfl) (.cons (c := [(I r55.1), (Sl a58 r55.2.1 c59), (I r55.2.2)]) ⟨[(I r55.1)], [(Sl a58 r55.2.1 c59), (I r55.2.2)], rfl, rfl, ⟨[(Sl a58 r55.2.1 c59)], [(I r55.2.2)], rfl, ⟨_, rfl, (H.ro 0 rfl)⟩, rfl⟩⟩ (.nil)) rfl) ?_
         rintro _ σq ⟨b60x, rfl, H2, m2⟩
         exact ⟨_, (a51, c52, a58, c59, b60x), rfl, rfl, ⟨H2.sel' [0, 1, 2, 3, 4, 5] rfl rfl, m.comp0 m2, ht53⟩, stab [0, 1, 2, 3, 4] (by kernel_rfl) ⟨rfl, rfl, rfl, rfl, rfl, trivial⟩⟩
        trivial) ?_
      exact all_nil
     ·rintro ⟨a51, c52, a58, c59, b60⟩ ρ σ61 hJ hoff hrel
      have e37 := hrel 1 rfl 37 rfl
      have e38 := hrel 2 rfl 38 rfl
      have e41 := hrel 5 rfl 41 rfl
      obtain ⟨H, -, ht53⟩ := (show Hp S0 σ0 σ61 [Ch.own n0 n0 (Sl (some ⟨b60, 0, none⟩) ([(r55.1, r55.2.1, r55.2.2)] : List (Int × (List Int) × Int)) 1) ([(r55.1, r55.2.1, r55.2.2)] : List (Int × (List Int) × Int)), Ch.ro n0 (Sl a58 r55.2.1 c59) r55.2.1, Ch.own n0 n0 (Sl a51 r48 c52) r48, Ch.ro 0 (Sl Ap Ao Aq) Ao, Ch.ro 0 (Sl Br Bq.2.1 Bs) Bq.2.1, Ch.bx n0 b1 0 [(I Bq.1), (Sl Br Bq.2.1 Bs), (I Bq.2.2)] [] []] ∧ Md (fun i => (cov []) i ∨ (fun i => (cov [Ch.ro 0 (Sl Br Bq.2.1 Bs) Bq.2.1]) i ∨ (fun b => blk (Sl a58 r55.2.1 c59) = some b) i) i) σ20 σ61 ∧ c52 = r48.length from hJ)
      clear hJ Hs
      rw [fr_lookL (L := [(37, (Sl a51 r48 c52)), (38, (I r17.1)), (41, (Sl (some ⟨b60, 0, none⟩) ([(r55.1, r55.2.1, r55.2.2)] : List (Int × (List Int) × Int)) 1))]) ⟨e37, e38, e41, trivial⟩]
      clear hoff hrel e37 e38 e41
      obtain ⟨σ62, hw63, H, -⟩ := H.pub 0 rfl (Nat.le_refl _)
      rw [← hw63]; clear hw63
      replace H := H.ownLow 2 0 0 rfl (Nat.zero_le _) (Nat.zero_le _)
      replace H := H.roLow 1 0 rfl (Nat.zero_le _)
      revert h; refine br fun r64 hx65 h => ?_
      have hc66 := c_slices_Insert_impl_Item_impl_Item (Az := a51) (Ba := c52) (Bn := ht53) (Bo := (some ⟨b60, 0, none⟩)) (Bp := 1) hx65
      refine st_call (cx_call hc66 (ent_f hc66.fn rfl) hn0 (H.sel' [1, 0, 0, 2, 3, 4, 5, 6] rfl rfl : Hp S0 σ0 _ ([_, _] ++ _))) wn ?_
      rintro _ σ69 ⟨_, ⟨a67, c68, rfl, rfl⟩, H, -⟩
      replace H : Hp _ _ _ [_, _, _, _, _, _, _] := H
      refine sa (Sl a67 r64 c68) rfl (sa (B true) rfl (w_end (q_then (c_ret ?_))))
      obtain rfl := sj h
      exact fin_ret (v := (.tuple #[(Sl a67 r64 c68), (B true)])) (results_ok Try.results140 (res_tmp (v := (Sl a67 r64 c68)) rfl (res_tmp (v := (B true)) rfl res_nil)) rfl) ⟨a67, c68, rfl, rfl⟩ (H.sel' [0] rfl rfl)

theorem c_impl_putChange_apply {Bi : (Int × (List Int) × Int)} {Bj : List (Int × (List Int) × Int)} {Bt : Option Addr} {Bu : Nat} {Bk : Option Addr} {Bl : Nat} {r : (List (Int × (List Int) × Int)) × Bool} (h : M.impl_putChange_apply Bi Bj = some r) :
    Cal2 Try.prog 138 [(.agg #[(I Bi.1), (Sl Bt Bi.2.1 Bu), (I Bi.2.2)]), (Sl Bk Bj Bl)] [Ch.ro 0 (Sl Bt Bi.2.1 Bu) Bi.2.1, Ch.ro 0 (Sl Bk Bj Bl) Bj] (fun n0 v L => ∃ (az1 : Option Addr), ∃ (cz2 : Nat), v = (.tuple #[(Sl az1 r.1 cz2), (B r.2)]) ∧ L = [Ch.own 0 0 (Sl az1 r.1 cz2) r.1]) := by
 refine cal2 (n := 12) Try.func138 rfl rfl rfl rfl ?_
 intro S0 σ0 n0 hn0 H
 unfold M.impl_putChange_apply at h
 refine c_seq (rg (st_ex (ex_box (cs := [(I Bi.1), (Sl Bt Bi.2.1 Bu), (I Bi.2.2)]) H hn0 rfl rfl) wn ?_))
 rintro _ σ2 ⟨b1, rfl, H, -⟩
 refine sa (.slice none 0 0) rfl (sa (B false) rfl (w_end (q_then (c_seq (rg (sm (Sl Bk Bj Bl) rfl (st (v := (pt b1 0)) (rv_fieldAddr (off := 0) (ft := 41) Try.underlying98 rfl ti41 rfl rfl) ?_)))))))
 have hc3 := H.part (us := [(I Bi.1), (Sl Bt Bi.2.1 Bu), (I Bi.2.2)]) (o' := 0) 0 0 3 rfl rfl rfl rfl
 refine st (v := (.agg #[(I Bi.1), (Sl Bt Bi.2.1 Bu), (I Bi.2.2)])) (rv_load (cs := [(I Bi.1), (Sl Bt Bi.2.1 Bu), (I Bi.2.2)]) Try.underlying41 rfl ti41 rfl rfl hc3) ?_
 revert h; refine br fun r4 hx5 h => ?_
 have hc6 := c_impl_PutItem (Ap := Bk) (Aq := Bl) (Br := Bt) (Bs := Bu) hx5
 refine st_call (cx_call hc6 (ent_f hc6.fn rfl) hn0 (H.sel' [2, 1, 0, 1, 2] rfl rfl : Hp S0 σ0 _ ([_, _] ++ _))) wn ?_
 rintro _ σ9 ⟨_, ⟨a7, c8, rfl, rfl⟩, H, -⟩
 replace H : Hp _ _ _ [_, _, _, _] := H
 refine st (v := (Sl a7 r4.1 c8)) (rv_extract rfl rfl) (st (v := (B r4.2)) (rv_extract rfl rfl) (sa (Sl a7 r4.1 c8) rfl (sa (B r4.2) rfl (w_end (q_then (c_ret ?_))))))
 obtain rfl := sj h
 exact fin_ret (v := (.tuple #[(Sl a7 r4.1 c8), (B r4.2)])) (results_ok Try.results138 (res_tmp (v := (Sl a7 r4.1 c8)) rfl (res_tmp (v := (B r4.2)) rfl res_nil)) rfl) ⟨a7, c8, rfl, rfl⟩ (H.sel' [0] rfl rfl)

end Go.Vs
