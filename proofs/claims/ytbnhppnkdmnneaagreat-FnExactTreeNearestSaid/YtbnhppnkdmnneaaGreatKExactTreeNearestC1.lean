/- The functions compute what their models say. -/
import Derived.Test.YtbnhppnkdmnneaaGreatKExactTreeNearestM
import Derived.Test.YtbnhppnkdmnneaaGreatExactTreeNearestEng2
import Derived.Test.YtbnhppnkdmnneaaGreatProg
set_option linter.unusedVariables false
set_option linter.unusedSimpArgs false
set_option maxRecDepth 20000
namespace Go.Vs
open Go Go.Proofs
attribute [local irreducible] Code.wp Code.wpIn wpList wpListIn wpQuiet Calls CallsIn

theorem ti3 : TI Tryz.prog 3 (.int .i64 0) 1 8 := TI.mk' (by kernel_rfl)
theorem ti22 : TI Tryz.prog 22 (.slice none 0 0) 1 24 := TI.mk' (by kernel_rfl)
theorem ti23 : TI Tryz.prog 23 (.slice none 0 0) 1 24 := TI.mk' (by kernel_rfl)
theorem ti25 : TI Tryz.prog 25 (.slice none 0 0) 1 24 := TI.mk' (by kernel_rfl)
theorem ti27 : TI Tryz.prog 27 (.slice none 0 0) 1 24 := TI.mk' (by kernel_rfl)
theorem ti45 : TI Tryz.prog 45 (.agg #[(.int .i64 0), (.slice none 0 0), (.int .i64 0)]) 3 40 := TI.mk' (by kernel_rfl)
theorem ti49 : TI Tryz.prog 49 (.slice none 0 0) 1 24 := TI.mk' (by kernel_rfl)
theorem ti51 : TI Tryz.prog 51 (.agg #[(.slice none 0 0), (.slice none 0 0), (.int .i64 0), (.slice none 0 0), (.int .i64 0), (.slice none 0 0), (.int .i64 0)]) 7 120 := TI.mk' (by kernel_rfl)
theorem ti54 : TI Tryz.prog 54 (.agg #[(.int .i64 0), (.slice none 0 0), (.int .i64 0)]) 3 40 := TI.mk' (by kernel_rfl)
theorem ti57 : TI Tryz.prog 57 (.slice none 0 0) 1 24 := TI.mk' (by kernel_rfl)
theorem ti59 : TI Tryz.prog 59 (.agg #[(.int .i64 0), (.slice none 0 0)]) 2 32 := TI.mk' (by kernel_rfl)
theorem ti62 : TI Tryz.prog 62 (.pointer none) 1 8 := TI.mk' (by kernel_rfl)
theorem ti67 : TI Tryz.prog 67 (.agg #[(.int .i64 0), (.int .i64 0)]) 2 16 := TI.mk' (by kernel_rfl)
theorem ti80 : TI Tryz.prog 80 (.agg #[(.pointer none), (.int .i64 0)]) 2 16 := TI.mk' (by kernel_rfl)
theorem ti85 : TI Tryz.prog 85 (.agg #[(.int .i64 0), (.slice none 0 0), (.int .i64 0), (.int .i64 0), (.pointer none), (.pointer none)]) 6 64 := TI.mk' (by kernel_rfl)
theorem ti105 : TI Tryz.prog 105 (.agg #[(.int .i64 0), (.int .i64 0), (.int .i64 0), (.int .i64 0)]) 4 32 := TI.mk' (by kernel_rfl)
theorem ti114 : TI Tryz.prog 114 (.agg #[(.int .i64 0), (.int .i64 0), (.int .i64 0), (.int .i64 0)]) 4 32 := TI.mk' (by kernel_rfl)
theorem ti160 : TI Tryz.prog 160 (.int .u64 0) 1 8 := TI.mk' (by kernel_rfl)
theorem bp51 {fs : Array Field} (hT : Tryz.prog.underlying 51 = some (.struct fs)) (w : World) : (fs.mapM (fun f => do pure (f.offset, ← sizeOf f.type)) : Sem (Array (Nat × Nat))).run Tryz.prog w = .ok #[(0, 1), (1, 1), (2, 1), (3, 1), (4, 1), (5, 1), (6, 1)] w := by
  rw [Tryz.underlying51] at hT; cases hT
  simp [run_typeInfo ti23, run_typeInfo ti25, run_typeInfo ti27, run_typeInfo ti3, run_typeInfo ti49]
theorem bp59 {fs : Array Field} (hT : Tryz.prog.underlying 59 = some (.struct fs)) (w : World) : (fs.mapM (fun f => do pure (f.offset, ← sizeOf f.type)) : Sem (Array (Nat × Nat))).run Tryz.prog w = .ok #[(0, 1), (1, 1)] w := by
  rw [Tryz.underlying59] at hT; cases hT
  simp [run_typeInfo ti3, run_typeInfo ti57]
theorem bp67 {fs : Array Field} (hT : Tryz.prog.underlying 67 = some (.struct fs)) (w : World) : (fs.mapM (fun f => do pure (f.offset, ← sizeOf f.type)) : Sem (Array (Nat × Nat))).run Tryz.prog w = .ok #[(0, 1), (1, 1)] w := by
  rw [Tryz.underlying67] at hT; cases hT
  simp [run_typeInfo ti3]
theorem bp80 {fs : Array Field} (hT : Tryz.prog.underlying 80 = some (.struct fs)) (w : World) : (fs.mapM (fun f => do pure (f.offset, ← sizeOf f.type)) : Sem (Array (Nat × Nat))).run Tryz.prog w = .ok #[(0, 1), (1, 1)] w := by
  rw [Tryz.underlying80] at hT; cases hT
  simp [run_typeInfo ti3, run_typeInfo ti62]
theorem bp85 {fs : Array Field} (hT : Tryz.prog.underlying 85 = some (.struct fs)) (w : World) : (fs.mapM (fun f => do pure (f.offset, ← sizeOf f.type)) : Sem (Array (Nat × Nat))).run Tryz.prog w = .ok #[(0, 3), (3, 1), (4, 1), (5, 1)] w := by
  rw [Tryz.underlying85] at hT; cases hT
  simp [run_typeInfo ti3, run_typeInfo ti54, run_typeInfo ti62]
theorem bp105 {fs : Array Field} (hT : Tryz.prog.underlying 105 = some (.struct fs)) (w : World) : (fs.mapM (fun f => do pure (f.offset, ← sizeOf f.type)) : Sem (Array (Nat × Nat))).run Tryz.prog w = .ok #[(0, 1), (1, 1), (2, 1), (3, 1)] w := by
  rw [Tryz.underlying105] at hT; cases hT
  simp [run_typeInfo ti3]

theorem c_laws_szIntS {Aa : List Int} {Ac : Int} {Ad : Option Addr} {Ae : Nat} {r : Int} (h : M.laws_szIntS Aa Ac = some r) :
    Cal2 Tryz.prog 36 [(Sl Ad Aa Ae), (I Ac)] [Ch.ro 0 (Sl Ad Aa Ae) Aa] (fun n0 v L => v = (I r) ∧ L = []) := by
 refine cal2 (n := 12) Tryz.func36 rfl rfl rfl rfl ?_
 intro S0 σ0 n0 hn0 H
 unfold M.laws_szIntS at h
 refine c_seq (rg (sa (I 0) rfl (w_end (q_then (c_seq (rg (sm (I Ac) rfl (sm (Sl Ad Aa Ae) rfl (st (v := (I (Aa.length : Int))) (rv_len Tryz.underlying23 rfl) (st (v := (I (w64 (Ac - (Aa.length : Int))))) (rv_sub (a := Ac) (b := (Aa.length : Int)) rfl rfl) (sa (I (w64 (Ac - (Aa.length : Int)))) rfl ?_)))))))))))
 refine w_end (q_then (c_seq (c_seq (rg (sm (I (w64 (Ac - (Aa.length : Int)))) rfl (st (v := (B (decide ((w64 (Ac - (Aa.length : Int))) < 0)))) (rv_lss (a := (w64 (Ac - (Aa.length : Int)))) (b := 0) rfl rfl) (w_end (q_then ?_))))))))
 refine cd_cond (decide ((w64 (Ac - (Aa.length : Int))) < 0)) rfl (fun hb1 => ?_) (fun hb1 => ?_)
 ·replace h := bif_t hb1 h
  refine c_seq (rg (sa (I (-1)) rfl (w_end (q_then (c_ret (q_then_r ?_))))))
  obtain rfl := sj h
  exact fin_ret (v := (I (-1))) (results_ok Tryz.results36 (res_tmp (v := (I (-1))) rfl res_nil) rfl) ⟨rfl, rfl⟩ (H.sel' [] rfl rfl)
 ·replace h := bif_f hb1 h
  refine c_skip (q_then (c_seq (rg (sm (I (w64 (Ac - (Aa.length : Int)))) rfl (sa (I (w64 (Ac - (Aa.length : Int)))) rfl (w_end (q_then (c_ret ?_))))))))
  obtain rfl := sj h
  exact fin_ret (v := (I (w64 (Ac - (Aa.length : Int))))) (results_ok Tryz.results36 (res_tmp (v := (I (w64 (Ac - (Aa.length : Int))))) rfl res_nil) rfl) ⟨rfl, rfl⟩ (H.sel' [] rfl rfl)

theorem c_laws_szItem {Aa : Int × (List Int) × Int} {Ac : Int} {Af : Option Addr} {Ag : Nat} {r : Int} (h : M.laws_szItem Aa Ac = some r) :
    Cal2 Tryz.prog 23 [(.agg #[(I Aa.1), (Sl Af Aa.2.1 Ag), (I Aa.2.2)]), (I Ac)] [Ch.ro 0 (Sl Af Aa.2.1 Ag) Aa.2.1] (fun n0 v L => v = (I r) ∧ L = []) := by
 refine cal2 (n := 12) Tryz.func23 rfl rfl rfl rfl ?_
 intro S0 σ0 n0 hn0 H
 unfold M.laws_szItem at h
 refine c_seq (rg (st_ex (ex_box (cs := [(I Aa.1), (Sl Af Aa.2.1 Ag), (I Aa.2.2)]) H hn0 rfl rfl) wn ?_))
 rintro _ σ2 ⟨b1, rfl, H, -⟩
 refine sa (I 0) rfl (w_end (q_then (c_seq (rg (st (v := (pt b1 1)) (rv_fieldAddr (off := 1) (ft := 23) Tryz.underlying45 rfl ti23 rfl rfl) ?_)))))
 have hc3 := H.cell (u := (Sl Af Aa.2.1 Ag)) (o' := 1) 0 1 rfl rfl rfl
 refine st (v := (Sl Af Aa.2.1 Ag)) (rv_load1 Tryz.underlying23 rfl rfl hc3) (sm (I Ac) rfl ?_)
 revert h; refine br fun r4 hx5 h => ?_
 have hc6 := c_laws_szIntS (Ad := Af) (Ae := Ag) hx5
 refine st_call (cx_call hc6 (ent_f hc6.fn rfl) hn0 (H.sel' [1, 0, 1] rfl rfl : Hp S0 σ0 _ ([_] ++ _))) wn ?_
 rintro _ σ7 ⟨_, ⟨rfl, rfl⟩, H, -⟩
 replace H : Hp _ _ _ [_, _] := H
 refine sa (I r4) rfl (w_end (q_then (c_seq (c_seq (rg (sm (I r4) rfl (st (v := (B (decide (r4 < 0)))) (rv_lss (a := r4) (b := 0) rfl rfl) (w_end (q_then ?_)))))))))
 refine cd_cond (decide (r4 < 0)) rfl (fun hb8 => ?_) (fun hb8 => ?_)
 ·replace h := bif_t hb8 h
  refine c_seq (rg (sa (I (-1)) rfl (w_end (q_then (c_ret (q_then_r ?_))))))
  obtain rfl := sj h
  exact fin_ret (v := (I (-1))) (results_ok Tryz.results23 (res_tmp (v := (I (-1))) rfl res_nil) rfl) ⟨rfl, rfl⟩ (H.sel' [] rfl rfl)
 ·replace h := bif_f hb8 h
  refine c_skip (q_then (c_seq (rg (sm (I r4) rfl (sa (I r4) rfl (w_end (q_then (c_ret ?_))))))))
  obtain rfl := sj h
  exact fin_ret (v := (I r4)) (results_ok Tryz.results23 (res_tmp (v := (I r4)) rfl res_nil) rfl) ⟨rfl, rfl⟩ (H.sel' [] rfl rfl)

theorem c_laws_szItemS {Aa : List (Int × (List Int) × Int)} {Ac : Int} {Ad : Option Addr} {Ae : Nat} {r : Int} (h : M.laws_szItemS Aa Ac = some r) :
    Cal2 Tryz.prog 5 [(Sl Ad Aa Ae), (I Ac)] [Ch.ro 0 (Sl Ad Aa Ae) Aa] (fun n0 v L => v = (I r) ∧ L = []) := by
 refine cal2 (n := 27) Tryz.func5 rfl rfl rfl rfl ?_
 intro S0 σ0 n0 hn0 H
 unfold M.laws_szItemS at h
 refine c_seq (rg (sa (I 0) rfl (w_end (q_then (c_seq (rg (sm (I Ac) rfl (sm (Sl Ad Aa Ae) rfl (st (v := (I (Aa.length : Int))) (rv_len Tryz.underlying22 rfl) (st (v := (I (w64 (Ac - (Aa.length : Int))))) (rv_sub (a := Ac) (b := (Aa.length : Int)) rfl rfl) (sa (I (w64 (Ac - (Aa.length : Int)))) rfl ?_)))))))))))
 refine w_end (q_then (c_seq (c_seq (rg (sm (I (w64 (Ac - (Aa.length : Int)))) rfl (st (v := (B (decide ((w64 (Ac - (Aa.length : Int))) < 0)))) (rv_lss (a := (w64 (Ac - (Aa.length : Int)))) (b := 0) rfl rfl) (w_end (q_then ?_))))))))
 refine cd_cond (decide ((w64 (Ac - (Aa.length : Int))) < 0)) rfl (fun hb1 => ?_) (fun hb1 => ?_)
 ·replace h := bif_t hb1 h
  refine c_seq (rg (sa (I (-1)) rfl (w_end (q_then (c_ret (q_then_r ?_))))))
  obtain rfl := sj h
  exact fin_ret (v := (I (-1))) (results_ok Tryz.results5 (res_tmp (v := (I (-1))) rfl res_nil) rfl) ⟨rfl, rfl⟩ (H.sel' [] rfl rfl)
 ·replace h := bif_f hb1 h
  refine c_skip (q_then (c_seq (c_seq (rg (sa (I 0) rfl (w_end (q_then ?_)))))))
  obtain ⟨o2, hj, h'⟩ := bind_some h
  clear h
  refine c_cut (fun e a w => (∃ t, o2 = (.inl t) ∧ e = .normal ∧ ∃ (ρ : Nat → Value) (σ : St), a = fr 27 (updL ρ [(1, (I t))]) ∧ w = σ.w ∧ Hp S0 σ0 σ []) ∨ (∃ t, o2 = (.inr t) ∧ e = .ret ∧ ∃ (ρ : Nat → Value) (σ : St), a = fr 27 (updL ρ [(4, (I t))]) ∧ w = σ.w ∧ Hp S0 σ0 σ [])) ?_ ?_
  ·clear h'
   rename _ = some o2 => h
   refine c_blk (wp_loopM _ h (fun s3 a w => ∃ (ρ : Nat → Value) (σ : St), a = fr 27 (updL ρ [(0, (Sl Ad Aa Ae)), (1, (I s3.1)), (5, (I s3.2))]) ∧ w = σ.w ∧ Hp S0 σ0 σ [Ch.ro 0 (Sl Ad Aa Ae) Aa]) ⟨_, σ0, fr_join ⟨rfl, rfl, rfl, trivial⟩, rfl, H.sel' [0] rfl rfl⟩ ?_)
   clear h H
   rintro s3 a w o ⟨ρ, σ4, rfl, rfl, H⟩ h hres
   refine c_seq (c_seq (rg (sm (I s3.2) rfl (sm (Sl Ad Aa Ae) rfl (st (v := (I (Aa.length : Int))) (rv_len Tryz.underlying22 rfl) (st (v := (B (decide (s3.2 < (Aa.length : Int))))) (rv_lss (a := s3.2) (b := (Aa.length : Int)) rfl rfl) (w_end (q_then ?_))))))))
   refine cd_cond (decide (s3.2 < (Aa.length : Int))) rfl (fun hb5 => ?_) (fun hb5 => ?_)
   ·replace h := bif_t hb5 h
    refine c_skip (q_then (c_seq (c_blk (c_seq (rg (sm (Sl Ad Aa Ae) rfl (sm (I s3.2) rfl ?_)))))))
    revert h; refine br fun x6 hx7 h => ?_
    obtain ⟨b9, o10, hi8, -⟩ := (H.ro 0 rfl).ix hx7
    refine st (v := (pt b9 o10)) (rv_ix Tryz.underlying22 ti45 rfl rfl hi8) ?_
    obtain ⟨_, ⟨_, _, rfl, rfl, ⟨_, _, rfl, ⟨_, rfl, hR15⟩, rfl⟩⟩, hl11, hc12⟩ := ((H.ro 0 rfl).at hx7 hi8).cells
    obtain ⟨a13, c14, rfl⟩ := hR15.isSl
    replace H := H.add (d := Ch.ro 0 (Sl a13 x6.2.1 c14) x6.2.1) hR15 (fun _ h => h)
    clear hR15
    refine st (v := (.agg #[(I x6.1), (Sl a13 x6.2.1 c14), (I x6.2.2)])) (rv_load Tryz.underlying45 rfl ti45 rfl hl11 hc12) (sm (I s3.1) rfl ?_)
    revert h; refine br fun r16 hx17 h => ?_
    have hc18 := c_laws_szItem (Af := a13) (Ag := c14) hx17
    refine st_call (cx_call hc18 (ent_f hc18.fn rfl) hn0 (H.sel' [0, 0, 1] rfl rfl : Hp S0 σ0 _ ([_] ++ _))) wn ?_
    rintro _ σ19 ⟨_, ⟨rfl, rfl⟩, H, -⟩
    replace H : Hp _ _ _ [_, _] := H
    refine sa (I r16) rfl (w_end (q_then (c_seq (rg (sm (I r16) rfl (st (v := (B (decide (r16 < 0)))) (rv_lss (a := r16) (b := 0) rfl rfl) (w_end (q_then ?_))))))))
    refine cd_cond (decide (r16 < 0)) rfl (fun hb20 => ?_) (fun hb20 => ?_)
    ·replace h := bif_t hb20 h
     refine c_seq (rg (sa (I (-1)) rfl (w_end (q_then (c_ret (q_blk_r (q_then_r (q_then_r (q_blk_r ?_)))))))))
     obtain rfl := sj h
     obtain rfl := hres _ rfl
     exact .inr (⟨_, rfl, rfl, _, σ19, fr_join ⟨rfl, trivial⟩, rfl, H.sel' [] rfl rfl⟩)
    ·replace h := bif_f hb20 h
     refine c_skip (q_blk (q_then (rg (sm (I s3.2) rfl (st (v := (I (w64 (s3.2 + 1)))) (rv_add (a := s3.2) (b := 1) rfl rfl) (sa (I (w64 (s3.2 + 1))) rfl (w_end (q_then ?_))))))))
     obtain rfl := sj h
     exact ⟨_, rfl, _, σ19, fr_join ⟨rfl, rfl, rfl, trivial⟩, rfl, H.sel' [1] rfl rfl⟩
   ·replace h := bif_f hb5 h
    refine c_exit (q_then_x (q_then_x (q_blk_hit ?_)))
    obtain rfl := sj h
    obtain rfl := hres _ rfl
    exact .inl ⟨_, rfl, rfl, _, σ4, fr_join ⟨rfl, trivial⟩, rfl, H.sel' [] rfl rfl⟩
  ·clear hj
   have h := h'
   clear h' H
   rintro e a w (⟨t21, rfl, rfl, ρ, σ22, rfl, rfl, H⟩ | ⟨t23, rfl, rfl, ρ, σ24, rfl, rfl, H⟩)
   ·replace h := selim_l h
    refine q_then (c_seq (rg (sm (I t21) rfl (sa (I t21) rfl (w_end (q_then (c_ret ?_)))))))
    obtain rfl := sj h
    exact fin_ret (v := (I t21)) (results_ok Tryz.results5 (res_tmp (v := (I t21)) rfl res_nil) rfl) ⟨rfl, rfl⟩ (H.sel' [] rfl rfl)
   ·replace h := selim_r h
    refine q_then_r ?_
    obtain rfl := sj h
    exact fin_ret (v := (I t23)) (results_ok Tryz.results5 (res_tmp (v := (I t23)) rfl res_nil) rfl) ⟨rfl, rfl⟩ (H.sel' [] rfl rfl)

theorem c_spec_inRange {Ah : Int} {Ai : Int} {Aj : Int}  {r : Bool} (h : M.spec_inRange Ah Ai Aj = some r) :
    Cal2 Tryz.prog 26 [(I Ah), (I Ai), (I Aj)] [] (fun n0 v L => v = (B r) ∧ L = []) := by
 refine cal2 (n := 15) Tryz.func26 rfl rfl rfl rfl ?_
 intro S0 σ0 n0 hn0 H
 unfold M.spec_inRange at h
 refine c_seq (rg (sa (B false) rfl (w_end (q_then (c_seq (rg (sm (I Ai) rfl (sm (I Ah) rfl (st (v := (B (decide (Ai ≤ Ah)))) (rv_leq (a := Ai) (b := Ah) rfl rfl) (sm (B (decide (Ai ≤ Ah))) rfl ?_))))))))))
 rcases Bool.eq_false_or_eq_true (decide (Ai ≤ Ah)) with hb1 | hb1
 ·replace h := bif_t hb1 h
  refine st_g (v := (I Ah)) (congrArg some hb1) (rv_move rfl) (st_g (v := (I Aj)) (congrArg some hb1) (rv_move rfl) (st_g (v := (B (decide (Ah ≤ Aj)))) (congrArg some hb1) (rv_leq (a := Ah) (b := Aj) rfl rfl) (st (v := (B (decide (Ah ≤ Aj)))) (rv_pick_t (congrArg B hb1) rfl) (sa (B (decide (Ah ≤ Aj))) rfl (w_end (q_then (c_ret ?_)))))))
  obtain rfl := sj h
  exact fin_ret (v := (B (decide (Ah ≤ Aj)))) (results_ok Tryz.results26 (res_tmp (v := (B (decide (Ah ≤ Aj)))) rfl res_nil) rfl) ⟨rfl, rfl⟩ (H.sel' [] rfl rfl)
 ·replace h := bif_f hb1 h
  refine st_skip (congrArg some hb1) (st_skip (congrArg some hb1) (st_skip (congrArg some hb1) (st (v := (B false)) (rv_pick_f (congrArg B hb1) rfl) (sa (B false) rfl (w_end (q_then (c_ret ?_)))))))
  obtain rfl := sj h
  exact fin_ret (v := (B false)) (results_ok Tryz.results26 (res_tmp (v := (B false)) rfl res_nil) rfl) ⟨rfl, rfl⟩ (H.sel' [] rfl rfl)

theorem c_spec_allIn {Ak : List Int} {Ai : Int} {Aj : Int} {Am : Option Addr} {Ao : Nat} {r : Bool} (h : M.spec_allIn Ak Ai Aj = some r) :
    Cal2 Tryz.prog 71 [(Sl Am Ak Ao), (I Ai), (I Aj)] [Ch.ro 0 (Sl Am Ak Ao) Ak] (fun n0 v L => v = (B r) ∧ L = []) := by
 refine cal2 (n := 22) Tryz.func71 rfl rfl rfl rfl ?_
 intro S0 σ0 n0 hn0 H
 unfold M.spec_allIn at h
 refine c_seq (rg (sa (B false) rfl (w_end (q_then (c_seq (c_seq (rg (sa (I 0) rfl (w_end (q_then ?_))))))))))
 obtain ⟨o1, hj, h'⟩ := bind_some h
 clear h
 refine c_cut (fun e a w => (∃ t, o1 = (.inl t) ∧ e = .normal ∧ ∃ (ρ : Nat → Value) (σ : St), a = fr 22 (updL ρ []) ∧ w = σ.w ∧ Hp S0 σ0 σ []) ∨ (∃ t, o1 = (.inr t) ∧ e = .ret ∧ ∃ (ρ : Nat → Value) (σ : St), a = fr 22 (updL ρ [(6, (B t))]) ∧ w = σ.w ∧ Hp S0 σ0 σ [])) ?_ ?_
 ·clear h'
  rename _ = some o1 => h
  refine c_blk (wp_loopM _ h (fun s2 a w => ∃ (ρ : Nat → Value) (σ : St), a = fr 22 (updL ρ [(0, (Sl Am Ak Ao)), (1, (I Ai)), (2, (I Aj)), (7, (I s2))]) ∧ w = σ.w ∧ Hp S0 σ0 σ [Ch.ro 0 (Sl Am Ak Ao) Ak]) ⟨_, σ0, fr_join ⟨rfl, rfl, rfl, rfl, trivial⟩, rfl, H.sel' [0] rfl rfl⟩ ?_)
  clear h H
  rintro s2 a w o ⟨ρ, σ3, rfl, rfl, H⟩ h hres
  refine c_seq (c_seq (rg (sm (I s2) rfl (sm (Sl Am Ak Ao) rfl (st (v := (I (Ak.length : Int))) (rv_len Tryz.underlying23 rfl) (st (v := (B (decide (s2 < (Ak.length : Int))))) (rv_lss (a := s2) (b := (Ak.length : Int)) rfl rfl) (w_end (q_then ?_))))))))
  refine cd_cond (decide (s2 < (Ak.length : Int))) rfl (fun hb4 => ?_) (fun hb4 => ?_)
  ·replace h := bif_t hb4 h
   refine c_skip (q_then (c_seq (c_blk (c_seq (rg (sm (Sl Am Ak Ao) rfl (sm (I s2) rfl ?_)))))))
   revert h; refine br fun x5 hx6 h => ?_
   obtain ⟨b8, o9, hi7, -⟩ := (H.ro 0 rfl).ix hx6
   refine st (v := (pt b8 o9)) (rv_ix Tryz.underlying23 ti3 rfl rfl hi7) ?_
   have hc10 := ((H.ro 0 rfl).at hx6 hi7).int
   refine st (v := (I x5)) (rv_load1 Tryz.underlying3 rfl rfl hc10) (sm (I Ai) rfl (sm (I Aj) rfl ?_))
   revert h; refine br fun r11 hx12 h => ?_
   have hc13 := c_spec_inRange hx12
   refine st_call (cx_call hc13 (ent_f hc13.fn rfl) hn0 (H.sel' [0] rfl rfl : Hp S0 σ0 _ ([] ++ _))) wn ?_
   rintro _ σ14 ⟨_, ⟨rfl, rfl⟩, H, -⟩
   replace H : Hp _ _ _ [_] := H
   refine st (v := (B (!r11))) (rv_not rfl) (w_end (q_then ?_))
   refine cd_cond (!r11) rfl (fun hb15 => ?_) (fun hb15 => ?_)
   ·replace h := bif_t hb15 h
    refine c_seq (rg (sa (B false) rfl (w_end (q_then (c_ret (q_blk_r (q_then_r (q_then_r (q_blk_r ?_)))))))))
    obtain rfl := sj h
    obtain rfl := hres _ rfl
    exact .inr (⟨_, rfl, rfl, _, σ14, fr_join ⟨rfl, trivial⟩, rfl, H.sel' [] rfl rfl⟩)
   ·replace h := bif_f hb15 h
    refine c_skip (q_blk (q_then (rg (sm (I s2) rfl (st (v := (I (w64 (s2 + 1)))) (rv_add (a := s2) (b := 1) rfl rfl) (sa (I (w64 (s2 + 1))) rfl (w_end (q_then ?_))))))))
    obtain rfl := sj h
    exact ⟨_, rfl, _, σ14, fr_join ⟨rfl, rfl, rfl, rfl, trivial⟩, rfl, H.sel' [0] rfl rfl⟩
  ·replace h := bif_f hb4 h
   refine c_exit (q_then_x (q_then_x (q_blk_hit ?_)))
   obtain rfl := sj h
   obtain rfl := hres _ rfl
   exact .inl ⟨_, rfl, rfl, _, σ3, fr_join trivial, rfl, H.sel' [] rfl rfl⟩
 ·clear hj
  have h := h'
  clear h' H
  rintro e a w (⟨t16, rfl, rfl, ρ, σ17, rfl, rfl, H⟩ | ⟨t18, rfl, rfl, ρ, σ19, rfl, rfl, H⟩)
  ·replace h := selim_l h
   refine q_then (c_seq (rg (sa (B true) rfl (w_end (q_then (c_ret ?_))))))
   obtain rfl := sj h
   exact fin_ret (v := (B true)) (results_ok Tryz.results71 (res_tmp (v := (B true)) rfl res_nil) rfl) ⟨rfl, rfl⟩ (H.sel' [] rfl rfl)
  ·replace h := selim_r h
   refine q_then_r ?_
   obtain rfl := sj h
   exact fin_ret (v := (B t18)) (results_ok Tryz.results71 (res_tmp (v := (B t18)) rfl res_nil) rfl) ⟨rfl, rfl⟩ (H.sel' [] rfl rfl)

theorem c_spec_isVector {Ap : List Int} {Aq : Option Addr} {Ar : Nat} {r : Bool} (h : M.spec_isVector Ap = some r) :
    Cal2 Tryz.prog 47 [(Sl Aq Ap Ar)] [Ch.ro 0 (Sl Aq Ap Ar) Ap] (fun n0 v L => v = (B r) ∧ L = []) := by
 refine cal2 (n := 10) Tryz.func47 rfl rfl rfl rfl ?_
 intro S0 σ0 n0 hn0 H
 unfold M.spec_isVector at h
 refine c_seq (rg (sa (B false) rfl (w_end (q_then (c_seq (rg (sm (Sl Aq Ap Ar) rfl (st (v := (I (Ap.length : Int))) (rv_len Tryz.underlying23 rfl) (st (v := (B ((Ap.length : Int) == 4))) (rv_eql (a := (Ap.length : Int)) (b := 4) rfl rfl) (sm (B ((Ap.length : Int) == 4)) rfl ?_))))))))))
 rcases Bool.eq_false_or_eq_true ((Ap.length : Int) == 4) with hb1 | hb1
 ·replace h := bif_t hb1 h
  refine st_g (v := (Sl Aq Ap Ar)) (congrArg some hb1) (rv_move rfl) ?_
  revert h; refine br fun r2 hx3 h => ?_
  have hc4 := c_spec_allIn (Am := Aq) (Ao := Ar) hx3
  refine st_call (cx_call hc4 (ent_f hc4.fn rfl) hn0 (H.sel' [0, 0] rfl rfl : Hp S0 σ0 _ ([_] ++ _))) (wanted_yes rfl (by exact (congrArg some hb1))) ?_
  rintro _ σ5 ⟨_, ⟨rfl, rfl⟩, H, -⟩
  replace H : Hp _ _ _ [_] := H
  refine st (v := (B r2)) (rv_pick_t (congrArg B hb1) rfl) (sa (B r2) rfl (w_end (q_then (c_ret ?_))))
  obtain rfl := sj h
  exact fin_ret (v := (B r2)) (results_ok Tryz.results47 (res_tmp (v := (B r2)) rfl res_nil) rfl) ⟨rfl, rfl⟩ (H.sel' [] rfl rfl)
 ·replace h := bif_f hb1 h
  refine st_skip (congrArg some hb1) (st_skip (congrArg some hb1) (st (v := (B false)) (rv_pick_f (congrArg B hb1) rfl) (sa (B false) rfl (w_end (q_then (c_ret ?_))))))
  obtain rfl := sj h
  exact fin_ret (v := (B false)) (results_ok Tryz.results47 (res_tmp (v := (B false)) rfl res_nil) rfl) ⟨rfl, rfl⟩ (H.sel' [] rfl rfl)

theorem c_spec_validItem {As : Int × (List Int) × Int} {Au : Option Addr} {Av : Nat} {r : Bool} (h : M.spec_validItem As = some r) :
    Cal2 Tryz.prog 70 [(.agg #[(I As.1), (Sl Au As.2.1 Av), (I As.2.2)])] [Ch.ro 0 (Sl Au As.2.1 Av) As.2.1] (fun n0 v L => v = (B r) ∧ L = []) := by
 refine cal2 (n := 16) Tryz.func70 rfl rfl rfl rfl ?_
 intro S0 σ0 n0 hn0 H
 unfold M.spec_validItem at h
 refine c_seq (rg (st_ex (ex_box (cs := [(I As.1), (Sl Au As.2.1 Av), (I As.2.2)]) H hn0 rfl rfl) wn ?_))
 rintro _ σ2 ⟨b1, rfl, H, -⟩
 refine sa (B false) rfl (w_end (q_then (c_seq (rg (st (v := (pt b1 0)) (rv_fieldAddr (off := 0) (ft := 3) Tryz.underlying54 rfl ti3 rfl rfl) ?_)))))
 have hc3 := H.cell (u := (I As.1)) (o' := 0) 0 0 rfl rfl rfl
 refine st (v := (I As.1)) (rv_load1 Tryz.underlying3 rfl rfl hc3) ?_
 revert h; refine br fun r4 hx5 h => ?_
 have hc6 := c_spec_inRange hx5
 refine st_call (cx_call hc6 (ent_f hc6.fn rfl) hn0 (H.sel' [0, 1] rfl rfl : Hp S0 σ0 _ ([] ++ _))) wn ?_
 rintro _ σ7 ⟨_, ⟨rfl, rfl⟩, H, -⟩
 replace H : Hp _ _ _ [_, _] := H
 refine sm (B r4) rfl ?_
 rcases Bool.eq_false_or_eq_true r4 with hb8 | hb8
 ·replace h := bif_t hb8 h
  refine st_g (v := (pt b1 1)) (congrArg some hb8) (rv_fieldAddr (off := 1) (ft := 23) Tryz.underlying54 rfl ti23 rfl rfl) ?_
  have hc9 := H.cell (u := (Sl Au As.2.1 Av)) (o' := 1) 0 1 rfl rfl rfl
  refine st_g (v := (Sl Au As.2.1 Av)) (congrArg some hb8) (rv_load1 Tryz.underlying23 rfl rfl hc9) ?_
  revert h; refine br fun r10 hx11 h => ?_
  have hc12 := c_spec_isVector (Aq := Au) (Ar := Av) hx11
  refine st_call (cx_call hc12 (ent_f hc12.fn rfl) hn0 (H.sel' [1, 0, 1] rfl rfl : Hp S0 σ0 _ ([_] ++ _))) (wanted_yes rfl (by exact (congrArg some hb8))) ?_
  rintro _ σ13 ⟨_, ⟨rfl, rfl⟩, H, -⟩
  replace H : Hp _ _ _ [_, _] := H
  refine st (v := (B r10)) (rv_pick_t (congrArg B hb8) rfl) (sm (B r10) rfl ?_)
  rcases Bool.eq_false_or_eq_true r10 with hb14 | hb14
  ·replace h := bif_t hb14 h
   refine st_g (v := (pt b1 2)) (congrArg some hb14) (rv_fieldAddr (off := 2) (ft := 3) Tryz.underlying54 rfl ti3 rfl rfl) ?_
   have hc15 := H.cell (u := (I As.2.2)) (o' := 2) 0 2 rfl rfl rfl
   refine st_g (v := (I As.2.2)) (congrArg some hb14) (rv_load1 Tryz.underlying3 rfl rfl hc15) ?_
   revert h; refine br fun r16 hx17 h => ?_
   have hc18 := c_spec_inRange hx17
   refine st_call (cx_call hc18 (ent_f hc18.fn rfl) hn0 (H.sel' [0, 1] rfl rfl : Hp S0 σ0 _ ([] ++ _))) (wanted_yes rfl (by exact (congrArg some hb14))) ?_
   rintro _ σ19 ⟨_, ⟨rfl, rfl⟩, H, -⟩
   replace H : Hp _ _ _ [_, _] := H
   refine st (v := (B r16)) (rv_pick_t (congrArg B hb14) rfl) (sa (B r16) rfl (w_end (q_then (c_ret ?_))))
   obtain rfl := sj h
   exact fin_ret (v := (B r16)) (results_ok Tryz.results70 (res_tmp (v := (B r16)) rfl res_nil) rfl) ⟨rfl, rfl⟩ (H.sel' [] rfl rfl)
  ·replace h := bif_f hb14 h
   refine st_skip (congrArg some hb14) (st_skip (congrArg some hb14) (st_skip (congrArg some hb14) (st (v := (B false)) (rv_pick_f (congrArg B hb14) rfl) (sa (B false) rfl (w_end (q_then (c_ret ?_)))))))
   obtain rfl := sj h
   exact fin_ret (v := (B false)) (results_ok Tryz.results70 (res_tmp (v := (B false)) rfl res_nil) rfl) ⟨rfl, rfl⟩ (H.sel' [] rfl rfl)
 ·replace h := bif_f hb8 h
  refine st_skip (congrArg some hb8) (st_skip (congrArg some hb8) (st_skip (congrArg some hb8) (st (v := (B false)) (rv_pick_f (congrArg B hb8) rfl) (sm (B false) rfl (st_skip rfl (st_skip rfl (st_skip rfl (st (v := (B false)) (rv_pick_f rfl rfl) (sa (B false) rfl (w_end (q_then ?_)))))))))))
  refine c_ret ?_
  obtain rfl := sj h
  exact fin_ret (v := (B false)) (results_ok Tryz.results70 (res_tmp (v := (B false)) rfl res_nil) rfl) ⟨rfl, rfl⟩ (H.sel' [] rfl rfl)

theorem c_spec_validStore {Ak : List (Int × (List Int) × Int)} {Am : Option Addr} {Ao : Nat} {r : Bool} (h : M.spec_validStore Ak = some r) :
    Cal2 Tryz.prog 45 [(Sl Am Ak Ao)] [Ch.ro 0 (Sl Am Ak Ao) Ak] (fun n0 v L => v = (B r) ∧ L = []) := by
 refine cal2 (n := 37) Tryz.func45 rfl rfl rfl rfl ?_
 intro S0 σ0 n0 hn0 H
 unfold M.spec_validStore at h
 refine c_seq (rg (sa (B false) rfl (w_end (q_then (c_seq (c_seq (rg (sa (I 0) rfl (w_end (q_then ?_))))))))))
 obtain ⟨o1, hj, h'⟩ := bind_some h
 clear h
 refine c_cut (fun e a w => (∃ t, o1 = (.inl t) ∧ e = .normal ∧ ∃ (ρ : Nat → Value) (σ : St), a = fr 37 (updL ρ [(0, (Sl Am Ak Ao))]) ∧ w = σ.w ∧ Hp S0 σ0 σ [Ch.ro 0 (Sl Am Ak Ao) Ak]) ∨ (∃ t, o1 = (.inr t) ∧ e = .ret ∧ ∃ (ρ : Nat → Value) (σ : St), a = fr 37 (updL ρ [(2, (B t))]) ∧ w = σ.w ∧ Hp S0 σ0 σ [])) ?_ ?_
 ·clear h'
  rename _ = some o1 => h
  refine c_blk (wp_loopM _ h (fun s2 a w => ∃ (ρ : Nat → Value) (σ : St), a = fr 37 (updL ρ [(0, (Sl Am Ak Ao)), (3, (I s2))]) ∧ w = σ.w ∧ Hp S0 σ0 σ [Ch.ro 0 (Sl Am Ak Ao) Ak]) ⟨_, σ0, fr_join ⟨rfl, rfl, trivial⟩, rfl, H.sel' [0] rfl rfl⟩ ?_)
  clear h H
  rintro s2 a w o ⟨ρ, σ3, rfl, rfl, H⟩ h hres
  refine c_seq (c_seq (rg (sm (I s2) rfl (sm (Sl Am Ak Ao) rfl (st (v := (I (Ak.length : Int))) (rv_len Tryz.underlying27 rfl) (st (v := (B (decide (s2 < (Ak.length : Int))))) (rv_lss (a := s2) (b := (Ak.length : Int)) rfl rfl) (w_end (q_then ?_))))))))
  refine cd_cond (decide (s2 < (Ak.length : Int))) rfl (fun hb4 => ?_) (fun hb4 => ?_)
  ·replace h := bif_t hb4 h
   refine c_skip (q_then (c_seq (c_blk (c_seq ?_))))
   obtain ⟨o5, hj, h'⟩ := bind_some h
   clear h
   refine c_cut (fun e a w => e = .normal ∧ ∃ (ρ : Nat → Value) (σ : St), a = fr 37 (updL ρ [(0, (Sl Am Ak Ao)), (3, (I s2)), (33, (B o5))]) ∧ w = σ.w ∧ Hp S0 σ0 σ [Ch.ro 0 (Sl Am Ak Ao) Ak]) ?_ ?_
   ·clear h'
    rename _ = some o5 => h
    revert h; refine br fun x6 hx7 h => ?_
    obtain ⟨b9, o10, hi8, -⟩ := (H.ro 0 rfl).ix hx7
    obtain ⟨_, ⟨_, _, rfl, rfl, ⟨_, _, rfl, ⟨_, rfl, hR15⟩, rfl⟩⟩, hl11, hc12⟩ := ((H.ro 0 rfl).at hx7 hi8).cells
    obtain ⟨a13, c14, rfl⟩ := hR15.isSl
    replace H := H.add (d := Ch.ro 0 (Sl a13 x6.2.1 c14) x6.2.1) hR15 (fun _ h => h)
    clear hR15
    revert h; refine br fun r16 hx17 h => ?_
    have hc18 := c_spec_validItem (Au := a13) (Av := c14) hx17
    rcases Bool.eq_false_or_eq_true (!r16) with hb19 | hb19
    ·replace h := bif_t hb19 h
     have Hs := H
     refine rg2 (σ := σ3) (Nm := Unit) 21 [4] [[false], [true]] [[(0, 0)], [(0, 0)], [(0, 0)], [(0, 0)], [(0, 1)], [(1, 1)], [(1, 1)], [(1, 1)], [(1, 1)], [(1, 1)], [(1, 1)], [(1, 1)], [(1, 1)], [(1, 1)], [(1, 1)], [(1, 1)], [(1, 1)], [(1, 1)], [(1, 1)], [(1, 1)], [(1, 1)]] 1 [fun _ => fun σm => Hp S0 σ0 σm [Ch.ro 0 (Sl a13 x6.2.1 c14) x6.2.1, Ch.ro 0 (Sl Am Ak Ao) Ak] ∧ Md (cov []) σ3 σm, fun _ => fun σm => Hp S0 σ0 σm [Ch.ro 0 (Sl a13 x6.2.1 c14) x6.2.1, Ch.ro 0 (Sl Am Ak Ao) Ak] ∧ Md (cov []) σ3 σm] [fun _ => (Sl Am Ak Ao), fun _ => (I s2), fun _ => (pt b9 o10), fun _ => (.agg #[(I x6.1), (Sl a13 x6.2.1 c14), (I x6.2.2)]), fun _ => (B r16), fun _ => (B (!r16)), fun _ => (B (!r16)), fun _ => undef, fun _ => undef, fun _ => undef, fun _ => undef, fun _ => undef, fun _ => undef, fun _ => undef, fun _ => undef, fun _ => undef, fun _ => undef, fun _ => undef, fun _ => undef, fun _ => undef, fun _ => undef] () (by kernel_rfl) (by kernel_rfl) ?_ ?_ ?_
     ·intro σm m0
      exact ⟨H.grow (m0.mono fun _ h => h.elim), m0⟩
     ·refine ac rfl (by
        intro k _nm ρ σm hJ hoff hdep
        have e0 := look_off (N := 37) (hoff 0 rfl) rfl
        exact dp_v (v := (Sl Am Ak Ao)) wn (rv_move e0) rfl hJ) ?_
      refine ac rfl (by
        intro k _nm ρ σm hJ hoff hdep
        have e3 := look_off (N := 37) (hoff 3 rfl) rfl
        exact dp_v (v := (I s2)) wn (rv_move e3) rfl hJ) ?_
      refine ac rfl (by
        intro k _nm ρ σm hJ hoff hdep
        have e10 := hdep 0 rfl rfl 10 rfl
        have e11 := hdep 1 rfl rfl 11 rfl
        exact dp_v (v := (pt b9 o10)) wn (rv_ix Tryz.underlying27 ti54 e10 e11 hi8) rfl hJ) ?_
      refine all_cons (by
        refine ⟨?_, ?_⟩
        ·intro _nm ρ σm hJ hoff hdep
         have e12 := hdep 2 rfl rfl 12 rfl
         obtain ⟨H, m⟩ := id hJ
         replace hc12 := fun j hj => (Hs.ro 1 rfl).hmd hx7 hi8 (k := j) (Nat.lt_of_lt_of_eq hj hl11) (hc12 j hj) m
         exact dp_v (v := (.agg #[(I x6.1), (Sl a13 x6.2.1 c14), (I x6.2.2)])) wn (rv_load Tryz.underlying54 rfl ti54 e12 hl11 hc12) rfl hJ
        trivial) ?_
      refine all_cons (by
        refine ⟨?_, ?_⟩
        ·intro _nm ρ σm hJ hoff hdep
         have e13 : look 37 ρ 13 = (.agg #[(I x6.1), (Sl a13 x6.2.1 c14), (I x6.2.2)]) := hdep 3 rfl rfl 13 rfl
         obtain ⟨H, m⟩ := id hJ
         refine dp_cx wn (cx_call hc18 (ent_f hc18.fn (by show [look 37 ρ 13] = _; rw [e13])) hn0 (H.sel' [0, 0, 1] rfl rfl : Hp S0 σ0 _ ([_] ++ _))) ?_
         rintro _ σq ⟨_, ⟨rfl, rfl⟩, H2, m2⟩
         exact ⟨_, (), rfl, rfl, ⟨H2.sel' [0, 1] rfl rfl, m.comp0 (m2.mono (fun i h => by simp [cov, Ch.ro] at h))⟩, stab [0, 1, 2, 3] (by kernel_rfl) ⟨rfl, rfl, rfl, rfl, trivial⟩⟩
        trivial) ?_
      refine ac rfl (by
        intro k _nm ρ σm hJ hoff hdep
        have e14 := hdep 4 rfl rfl 14 rfl
        exact dp_v (v := (B (!r16))) wn (rv_not e14) rfl hJ) ?_
      refine ac rfl (by
        intro k _nm ρ σm hJ hoff hdep
        have e15 := hdep 5 rfl rfl 15 rfl
        exact dp_v (v := (B (!r16))) wn (rv_move e15) rfl hJ) ?_
      refine ac rfl (by
        intro k _nm ρ σm hJ hoff hdep
        have e16 := hdep 6 rfl rfl 16 rfl
        exact dp_skip (wanted_no rfl (yv_of rfl (e16.trans (congrArg B hb19)))) rfl hJ) ?_
      refine ac rfl (by
        intro k _nm ρ σm hJ hoff hdep
        have e16 := hdep 6 rfl rfl 16 rfl
        exact dp_skip (wanted_no rfl (yv_of rfl (e16.trans (congrArg B hb19)))) rfl hJ) ?_
      refine ac rfl (by
        intro k _nm ρ σm hJ hoff hdep
        have e16 := hdep 6 rfl rfl 16 rfl
        exact dp_skip (wanted_no rfl (yv_of rfl (e16.trans (congrArg B hb19)))) rfl hJ) ?_
      refine ac rfl (by
        intro k _nm ρ σm hJ hoff hdep
        have e19 := hdep 9 rfl rfl 19 rfl
        exact dp_skip (wanted_u rfl (yv_undef rfl e19)) rfl hJ) ?_
      refine ac rfl (by
        intro k _nm ρ σm hJ hoff hdep
        have e19 := hdep 9 rfl rfl 19 rfl
        exact dp_skip (wanted_u rfl (yv_undef rfl e19)) rfl hJ) ?_
      refine ac rfl (by
        intro k _nm ρ σm hJ hoff hdep
        have e19 := hdep 9 rfl rfl 19 rfl
        exact dp_skip (wanted_u rfl (yv_undef rfl e19)) rfl hJ) ?_
      refine ac rfl (by
        intro k _nm ρ σm hJ hoff hdep
        have e19 := hdep 9 rfl rfl 19 rfl
        exact dp_skip (wanted_u rfl (yv_undef rfl e19)) rfl hJ) ?_
      refine ac rfl (by
        intro k _nm ρ σm hJ hoff hdep
        have e19 := hdep 9 rfl rfl 19 rfl
        exact dp_skip (wanted_u rfl (yv_undef rfl e19)) rfl hJ) ?_
      refine ac rfl (by
        intro k _nm ρ σm hJ hoff hdep
        have e19 := hdep 9 rfl rfl 19 rfl
        exact dp_skip (wanted_u rfl (yv_undef rfl e19)) rfl hJ) ?_
      refine ac rfl (by
        intro k _nm ρ σm hJ hoff hdep
        have e19 := hdep 9 rfl rfl 19 rfl
        exact dp_skip (wanted_u rfl (yv_undef rfl e19)) rfl hJ) ?_
      refine ac rfl (by
        intro k _nm ρ σm hJ hoff hdep
        have e19 := hdep 9 rfl rfl 19 rfl
        exact dp_skip (wanted_u rfl (yv_undef rfl e19)) rfl hJ) ?_
      refine ac rfl (by
        intro k _nm ρ σm hJ hoff hdep
        have e19 := hdep 9 rfl rfl 19 rfl
        exact dp_skip (wanted_u rfl (yv_undef rfl e19)) rfl hJ) ?_
      refine ac rfl (by
        intro k _nm ρ σm hJ hoff hdep
        have e19 := hdep 9 rfl rfl 19 rfl
        exact dp_skip (wanted_u rfl (yv_undef rfl e19)) rfl hJ) ?_
      refine ac rfl (by
        intro k _nm ρ σm hJ hoff hdep
        have e19 := hdep 9 rfl rfl 19 rfl
        exact dp_skip (wanted_u rfl (yv_undef rfl e19)) rfl hJ) ?_
      exact all_nil
     ·intro _nm ρ σ20 hJ hoff hrel
      have e0 := look_off (N := 37) (hoff 0 rfl) rfl
      have e3 := look_off (N := 37) (hoff 3 rfl) rfl
      have e16 := hrel 6 rfl 16 rfl
      have e19 := hrel 9 rfl 19 rfl
      have e24 := hrel 14 rfl 24 rfl
      have e30 := hrel 20 rfl 30 rfl
      obtain ⟨H, -⟩ := (show Hp S0 σ0 σ20 [Ch.ro 0 (Sl a13 x6.2.1 c14) x6.2.1, Ch.ro 0 (Sl Am Ak Ao) Ak] ∧ Md (cov []) σ3 σ20 from hJ)
      clear hJ Hs
      rw [fr_lookL (L := [(0, (Sl Am Ak Ao)), (3, (I s2)), (16, (B (!r16))), (19, undef), (24, undef), (30, undef)]) ⟨e0, e3, e16, e19, e24, e30, trivial⟩]
      clear hoff hrel e0 e3 e16 e19 e24 e30
      refine st_skip_u rfl (st_skip (congrArg some hb19) (st (v := (B true)) (rv_pick_t (congrArg B hb19) rfl) (w_end ?_)))
      obtain rfl := sj h
      exact ⟨rfl, _, σ20, fr_join ⟨rfl, rfl, rfl, trivial⟩, rfl, H.sel' [1] rfl rfl⟩
    ·replace h := bif_f hb19 h
     rcases Bool.eq_false_or_eq_true (decide (0 < s2)) with hb21 | hb21
     ·replace h := bif_t hb21 h
      revert h; refine br fun x22 hx23 h => ?_
      obtain ⟨b25, o26, hi24, -⟩ := (H.ro 1 rfl).ix hx23
      have hc27 := ((H.ro 1 rfl).at hx23 hi24).fst.int
      revert h; refine br fun x28 hx29 h => ?_
      obtain ⟨b31, o32, hi30, -⟩ := (H.ro 1 rfl).ix hx29
      have hc33 := ((H.ro 1 rfl).at hx29 hi30).fst.int
      have Hs := H
      refine rg2 (σ := σ3) (Nm := Unit) 21 [4] [[false], [true]] [[(0, 0)], [(0, 0)], [(0, 0)], [(0, 0)], [(0, 1)], [(1, 1)], [(1, 1)], [(1, 1)], [(1, 1)], [(1, 1)], [(1, 1)], [(1, 1)], [(1, 1)], [(1, 1)], [(1, 1)], [(1, 1)], [(1, 1)], [(1, 1)], [(1, 1)], [(1, 1)], [(1, 1)]] 1 [fun _ => fun σm => Hp S0 σ0 σm [Ch.ro 0 (Sl a13 x6.2.1 c14) x6.2.1, Ch.ro 0 (Sl Am Ak Ao) Ak] ∧ Md (cov []) σ3 σm, fun _ => fun σm => Hp S0 σ0 σm [Ch.ro 0 (Sl a13 x6.2.1 c14) x6.2.1, Ch.ro 0 (Sl Am Ak Ao) Ak] ∧ Md (cov []) σ3 σm] [fun _ => (Sl Am Ak Ao), fun _ => (I s2), fun _ => (pt b9 o10), fun _ => (.agg #[(I x6.1), (Sl a13 x6.2.1 c14), (I x6.2.2)]), fun _ => (B r16), fun _ => (B (!r16)), fun _ => (B (!r16)), fun _ => (I s2), fun _ => (B (decide (0 < s2))), fun _ => (B (decide (0 < s2))), fun _ => (Sl Am Ak Ao), fun _ => (I s2), fun _ => (pt b25 o26), fun _ => (pt b25 (o26 + 0)), fun _ => (I x22.1), fun _ => (Sl Am Ak Ao), fun _ => (I s2), fun _ => (I (w64 (s2 - 1))), fun _ => (pt b31 o32), fun _ => (pt b31 (o32 + 0)), fun _ => (I x28.1)] () (by kernel_rfl) (by kernel_rfl) ?_ ?_ ?_
      ·intro σm m0
       exact ⟨H.grow (m0.mono fun _ h => h.elim), m0⟩
      ·refine ac rfl (by
         intro k _nm ρ σm hJ hoff hdep
         have e0 := look_off (N := 37) (hoff 0 rfl) rfl
         exact dp_v (v := (Sl Am Ak Ao)) wn (rv_move e0) rfl hJ) ?_
       refine ac rfl (by
         intro k _nm ρ σm hJ hoff hdep
         have e3 := look_off (N := 37) (hoff 3 rfl) rfl
         exact dp_v (v := (I s2)) wn (rv_move e3) rfl hJ) ?_
       refine ac rfl (by
         intro k _nm ρ σm hJ hoff hdep
         have e10 := hdep 0 rfl rfl 10 rfl
         have e11 := hdep 1 rfl rfl 11 rfl
         exact dp_v (v := (pt b9 o10)) wn (rv_ix Tryz.underlying27 ti54 e10 e11 hi8) rfl hJ) ?_
       refine all_cons (by
         refine ⟨?_, ?_⟩
         ·intro _nm ρ σm hJ hoff hdep
          have e12 := hdep 2 rfl rfl 12 rfl
          obtain ⟨H, m⟩ := id hJ
          replace hc12 := fun j hj => (Hs.ro 1 rfl).hmd hx7 hi8 (k := j) (Nat.lt_of_lt_of_eq hj hl11) (hc12 j hj) m
          exact dp_v (v := (.agg #[(I x6.1), (Sl a13 x6.2.1 c14), (I x6.2.2)])) wn (rv_load Tryz.underlying54 rfl ti54 e12 hl11 hc12) rfl hJ
         trivial) ?_
       refine all_cons (by
         refine ⟨?_, ?_⟩
         ·intro _nm ρ σm hJ hoff hdep
          have e13 : look 37 ρ 13 = (.agg #[(I x6.1), (Sl a13 x6.2.1 c14), (I x6.2.2)]) := hdep 3 rfl rfl 13 rfl
          obtain ⟨H, m⟩ := id hJ
          refine dp_cx wn (cx_call hc18 (ent_f hc18.fn (by show [look 37 ρ 13] = _; rw [e13])) hn0 (H.sel' [0, 0, 1] rfl rfl : Hp S0 σ0 _ ([_] ++ _))) ?_
          rintro _ σq ⟨_, ⟨rfl, rfl⟩, H2, m2⟩
          exact ⟨_, (), rfl, rfl, ⟨H2.sel' [0, 1] rfl rfl, m.comp0 (m2.mono (fun i h => by simp [cov, Ch.ro] at h))⟩, stab [0, 1, 2, 3] (by kernel_rfl) ⟨rfl, rfl, rfl, rfl, trivial⟩⟩
         trivial) ?_
       refine ac rfl (by
         intro k _nm ρ σm hJ hoff hdep
         have e14 := hdep 4 rfl rfl 14 rfl
         exact dp_v (v := (B (!r16))) wn (rv_not e14) rfl hJ) ?_
       refine ac rfl (by
         intro k _nm ρ σm hJ hoff hdep
         have e15 := hdep 5 rfl rfl 15 rfl
         exact dp_v (v := (B (!r16))) wn (rv_move e15) rfl hJ) ?_
       refine ac rfl (by
         intro k _nm ρ σm hJ hoff hdep
         have e3 := look_off (N := 37) (hoff 3 rfl) rfl
         have e16 := hdep 6 rfl rfl 16 rfl
         exact dp_v (v := (I s2)) (wanted_yes rfl (yv_of rfl (e16.trans (congrArg B hb19)))) (rv_move e3) rfl hJ) ?_
       refine ac rfl (by
         intro k _nm ρ σm hJ hoff hdep
         have e17 := hdep 7 rfl rfl 17 rfl
         have e16 := hdep 6 rfl rfl 16 rfl
         exact dp_v (v := (B (decide (0 < s2)))) (wanted_yes rfl (yv_of rfl (e16.trans (congrArg B hb19)))) (rv_gtr (a := s2) (b := 0) e17 rfl) rfl hJ) ?_
       refine ac rfl (by
         intro k _nm ρ σm hJ hoff hdep
         have e18 := hdep 8 rfl rfl 18 rfl
         have e16 := hdep 6 rfl rfl 16 rfl
         exact dp_v (v := (B (decide (0 < s2)))) (wanted_yes rfl (yv_of rfl (e16.trans (congrArg B hb19)))) (rv_move e18) rfl hJ) ?_
       refine ac rfl (by
         intro k _nm ρ σm hJ hoff hdep
         have e0 := look_off (N := 37) (hoff 0 rfl) rfl
         have e19 := hdep 9 rfl rfl 19 rfl
         exact dp_v (v := (Sl Am Ak Ao)) (wanted_yes rfl (yv_of rfl (e19.trans (congrArg B hb21)))) (rv_move e0) rfl hJ) ?_
       refine ac rfl (by
         intro k _nm ρ σm hJ hoff hdep
         have e3 := look_off (N := 37) (hoff 3 rfl) rfl
         have e19 := hdep 9 rfl rfl 19 rfl
         exact dp_v (v := (I s2)) (wanted_yes rfl (yv_of rfl (e19.trans (congrArg B hb21)))) (rv_move e3) rfl hJ) ?_
       refine ac rfl (by
         intro k _nm ρ σm hJ hoff hdep
         have e20 := hdep 10 rfl rfl 20 rfl
         have e21 := hdep 11 rfl rfl 21 rfl
         have e19 := hdep 9 rfl rfl 19 rfl
         exact dp_v (v := (pt b25 o26)) (wanted_yes rfl (yv_of rfl (e19.trans (congrArg B hb21)))) (rv_ix Tryz.underlying27 ti54 e20 e21 hi24) rfl hJ) ?_
       refine ac rfl (by
         intro k _nm ρ σm hJ hoff hdep
         have e22 := hdep 12 rfl rfl 22 rfl
         have e19 := hdep 9 rfl rfl 19 rfl
         exact dp_v (v := (pt b25 (o26 + 0))) (wanted_yes rfl (yv_of rfl (e19.trans (congrArg B hb21)))) (rv_fieldAddr (off := 0) (ft := 3) Tryz.underlying54 rfl ti3 rfl e22) rfl hJ) ?_
       refine all_cons (by
         refine ⟨?_, ?_⟩
         ·intro _nm ρ σm hJ hoff hdep
          have e23 := hdep 13 rfl rfl 23 rfl
          have e19 := hdep 9 rfl rfl 19 rfl
          obtain ⟨H, m⟩ := id hJ
          replace hc27 := (Hs.ro 1 rfl).hmd hx23 hi24 (k := 0) (by decide) hc27 m
          exact dp_v (v := (I x22.1)) (wanted_yes rfl (yv_of rfl (e19.trans (congrArg B hb21)))) (rv_load1 Tryz.underlying3 rfl e23 hc27) rfl hJ
         trivial) ?_
       refine ac rfl (by
         intro k _nm ρ σm hJ hoff hdep
         have e0 := look_off (N := 37) (hoff 0 rfl) rfl
         have e19 := hdep 9 rfl rfl 19 rfl
         exact dp_v (v := (Sl Am Ak Ao)) (wanted_yes rfl (yv_of rfl (e19.trans (congrArg B hb21)))) (rv_move e0) rfl hJ) ?_
       refine ac rfl (by
         intro k _nm ρ σm hJ hoff hdep
         have e3 := look_off (N := 37) (hoff 3 rfl) rfl
         have e19 := hdep 9 rfl rfl 19 rfl
         exact dp_v (v := (I s2)) (wanted_yes rfl (yv_of rfl (e19.trans (congrArg B hb21)))) (rv_move e3) rfl hJ) ?_
       refine ac rfl (by
         intro k _nm ρ σm hJ hoff hdep
         have e26 := hdep 16 rfl rfl 26 rfl
         have e19 := hdep 9 rfl rfl 19 rfl
         exact dp_v (v := (I (w64 (s2 - 1)))) (wanted_yes rfl (yv_of rfl (e19.trans (congrArg B hb21)))) (rv_sub (a := s2) (b := 1) e26 rfl) rfl hJ) ?_
       refine ac rfl (by
         intro k _nm ρ σm hJ hoff hdep
         have e25 := hdep 15 rfl rfl 25 rfl
         have e27 := hdep 17 rfl rfl 27 rfl
         have e19 := hdep 9 rfl rfl 19 rfl
         exact dp_v (v := (pt b31 o32)) (wanted_yes rfl (yv_of rfl (e19.trans (congrArg B hb21)))) (rv_ix Tryz.underlying27 ti54 e25 e27 hi30) rfl hJ) ?_
       refine ac rfl (by
         intro k _nm ρ σm hJ hoff hdep
         have e28 := hdep 18 rfl rfl 28 rfl
         have e19 := hdep 9 rfl rfl 19 rfl
         exact dp_v (v := (pt b31 (o32 + 0))) (wanted_yes rfl (yv_of rfl (e19.trans (congrArg B hb21)))) (rv_fieldAddr (off := 0) (ft := 3) Tryz.underlying54 rfl ti3 rfl e28) rfl hJ) ?_
       refine all_cons (by
         refine ⟨?_, ?_⟩
         ·intro _nm ρ σm hJ hoff hdep
          have e29 := hdep 19 rfl rfl 29 rfl
          have e19 := hdep 9 rfl rfl 19 rfl
          obtain ⟨H, m⟩ := id hJ
          replace hc33 := (Hs.ro 1 rfl).hmd hx29 hi30 (k := 0) (by decide) hc33 m
          exact dp_v (v := (I x28.1)) (wanted_yes rfl (yv_of rfl (e19.trans (congrArg B hb21)))) (rv_load1 Tryz.underlying3 rfl e29 hc33) rfl hJ
         trivial) ?_
       exact all_nil
      ·intro _nm ρ σ34 hJ hoff hrel
       have e0 := look_off (N := 37) (hoff 0 rfl) rfl
       have e3 := look_off (N := 37) (hoff 3 rfl) rfl
       have e16 := hrel 6 rfl 16 rfl
       have e19 := hrel 9 rfl 19 rfl
       have e24 := hrel 14 rfl 24 rfl
       have e30 := hrel 20 rfl 30 rfl
       obtain ⟨H, -⟩ := (show Hp S0 σ0 σ34 [Ch.ro 0 (Sl a13 x6.2.1 c14) x6.2.1, Ch.ro 0 (Sl Am Ak Ao) Ak] ∧ Md (cov []) σ3 σ34 from hJ)
       clear hJ Hs
       rw [fr_lookL (L := [(0, (Sl Am Ak Ao)), (3, (I s2)), (16, (B (!r16))), (19, (B (decide (0 < s2)))), (24, (I x22.1)), (30, (I x28.1))]) ⟨e0, e3, e16, e19, e24, e30, trivial⟩]
       clear hoff hrel e0 e3 e16 e19 e24 e30
       refine st_g (v := (B (decide (x22.1 ≤ x28.1)))) (congrArg some hb21) (rv_leq (a := x22.1) (b := x28.1) rfl rfl) (st_g (v := (B (decide (x22.1 ≤ x28.1)))) (congrArg some hb19) (rv_pick_t (congrArg B hb21) rfl) (st (v := (B (decide (x22.1 ≤ x28.1)))) (rv_pick_f (congrArg B hb19) rfl) (w_end ?_)))
       obtain rfl := sj h
       exact ⟨rfl, _, σ34, fr_join ⟨rfl, rfl, rfl, trivial⟩, rfl, H.sel' [1] rfl rfl⟩
     ·replace h := bif_f hb21 h
      have Hs := H
      refine rg2 (σ := σ3) (Nm := Unit) 21 [4] [[false], [true]] [[(0, 0)], [(0, 0)], [(0, 0)], [(0, 0)], [(0, 1)], [(1, 1)], [(1, 1)], [(1, 1)], [(1, 1)], [(1, 1)], [(1, 1)], [(1, 1)], [(1, 1)], [(1, 1)], [(1, 1)], [(1, 1)], [(1, 1)], [(1, 1)], [(1, 1)], [(1, 1)], [(1, 1)]] 1 [fun _ => fun σm => Hp S0 σ0 σm [Ch.ro 0 (Sl a13 x6.2.1 c14) x6.2.1, Ch.ro 0 (Sl Am Ak Ao) Ak] ∧ Md (cov []) σ3 σm, fun _ => fun σm => Hp S0 σ0 σm [Ch.ro 0 (Sl a13 x6.2.1 c14) x6.2.1, Ch.ro 0 (Sl Am Ak Ao) Ak] ∧ Md (cov []) σ3 σm] [fun _ => (Sl Am Ak Ao), fun _ => (I s2), fun _ => (pt b9 o10), fun _ => (.agg #[(I x6.1), (Sl a13 x6.2.1 c14), (I x6.2.2)]), fun _ => (B r16), fun _ => (B (!r16)), fun _ => (B (!r16)), fun _ => (I s2), fun _ => (B (decide (0 < s2))), fun _ => (B (decide (0 < s2))), fun _ => undef, fun _ => undef, fun _ => undef, fun _ => undef, fun _ => undef, fun _ => undef, fun _ => undef, fun _ => undef, fun _ => undef, fun _ => undef, fun _ => undef] () (by kernel_rfl) (by kernel_rfl) ?_ ?_ ?_
      ·intro σm m0
       exact ⟨H.grow (m0.mono fun _ h => h.elim), m0⟩
      ·refine ac rfl (by
         intro k _nm ρ σm hJ hoff hdep
         have e0 := look_off (N := 37) (hoff 0 rfl) rfl
         exact dp_v (v := (Sl Am Ak Ao)) wn (rv_move e0) rfl hJ) ?_
       refine ac rfl (by
         intro k _nm ρ σm hJ hoff hdep
         have e3 := look_off (N := 37) (hoff 3 rfl) rfl
         exact dp_v (v := (I s2)) wn (rv_move e3) rfl hJ) ?_
       refine ac rfl (by
         intro k _nm ρ σm hJ hoff hdep
         have e10 := hdep 0 rfl rfl 10 rfl
         have e11 := hdep 1 rfl rfl 11 rfl
         exact dp_v (v := (pt b9 o10)) wn (rv_ix Tryz.underlying27 ti54 e10 e11 hi8) rfl hJ) ?_
       refine all_cons (by
         refine ⟨?_, ?_⟩
         ·intro _nm ρ σm hJ hoff hdep
          have e12 := hdep 2 rfl rfl 12 rfl
          obtain ⟨H, m⟩ := id hJ
          replace hc12 := fun j hj => (Hs.ro 1 rfl).hmd hx7 hi8 (k := j) (Nat.lt_of_lt_of_eq hj hl11) (hc12 j hj) m
          exact dp_v (v := (.agg #[(I x6.1), (Sl a13 x6.2.1 c14), (I x6.2.2)])) wn (rv_load Tryz.underlying54 rfl ti54 e12 hl11 hc12) rfl hJ
         trivial) ?_
       refine all_cons (by
         refine ⟨?_, ?_⟩
         ·intro _nm ρ σm hJ hoff hdep
          have e13 : look 37 ρ 13 = (.agg #[(I x6.1), (Sl a13 x6.2.1 c14), (I x6.2.2)]) := hdep 3 rfl rfl 13 rfl
          obtain ⟨H, m⟩ := id hJ
          refine dp_cx wn (cx_call hc18 (ent_f hc18.fn (by show [look 37 ρ 13] = _; rw [e13])) hn0 (H.sel' [0, 0, 1] rfl rfl : Hp S0 σ0 _ ([_] ++ _))) ?_
          rintro _ σq ⟨_, ⟨rfl, rfl⟩, H2, m2⟩
          exact ⟨_, (), rfl, rfl, ⟨H2.sel' [0, 1] rfl rfl, m.comp0 (m2.mono (fun i h => by simp [cov, Ch.ro] at h))⟩, stab [0, 1, 2, 3] (by kernel_rfl) ⟨rfl, rfl, rfl, rfl, trivial⟩⟩
         trivial) ?_
       refine ac rfl (by
         intro k _nm ρ σm hJ hoff hdep
         have e14 := hdep 4 rfl rfl 14 rfl
         exact dp_v (v := (B (!r16))) wn (rv_not e14) rfl hJ) ?_
       refine ac rfl (by
         intro k _nm ρ σm hJ hoff hdep
         have e15 := hdep 5 rfl rfl 15 rfl
         exact dp_v (v := (B (!r16))) wn (rv_move e15) rfl hJ) ?_
       refine ac rfl (by
         intro k _nm ρ σm hJ hoff hdep
         have e3 := look_off (N := 37) (hoff 3 rfl) rfl
         have e16 := hdep 6 rfl rfl 16 rfl
         exact dp_v (v := (I s2)) (wanted_yes rfl (yv_of rfl (e16.trans (congrArg B hb19)))) (rv_move e3) rfl hJ) ?_
       refine ac rfl (by
         intro k _nm ρ σm hJ hoff hdep
         have e17 := hdep 7 rfl rfl 17 rfl
         have e16 := hdep 6 rfl rfl 16 rfl
         exact dp_v (v := (B (decide (0 < s2)))) (wanted_yes rfl (yv_of rfl (e16.trans (congrArg B hb19)))) (rv_gtr (a := s2) (b := 0) e17 rfl) rfl hJ) ?_
       refine ac rfl (by
         intro k _nm ρ σm hJ hoff hdep
         have e18 := hdep 8 rfl rfl 18 rfl
         have e16 := hdep 6 rfl rfl 16 rfl
         exact dp_v (v := (B (decide (0 < s2)))) (wanted_yes rfl (yv_of rfl (e16.trans (congrArg B hb19)))) (rv_move e18) rfl hJ) ?_
       refine ac rfl (by
         intro k _nm ρ σm hJ hoff hdep
         have e19 := hdep 9 rfl rfl 19 rfl
         exact dp_skip (wanted_no rfl (yv_of rfl (e19.trans (congrArg B hb21)))) rfl hJ) ?_
       refine ac rfl (by
         intro k _nm ρ σm hJ hoff hdep
         have e19 := hdep 9 rfl rfl 19 rfl
         exact dp_skip (wanted_no rfl (yv_of rfl (e19.trans (congrArg B hb21)))) rfl hJ) ?_
       refine ac rfl (by
         intro k _nm ρ σm hJ hoff hdep
         have e19 := hdep 9 rfl rfl 19 rfl
         exact dp_skip (wanted_no rfl (yv_of rfl (e19.trans (congrArg B hb21)))) rfl hJ) ?_
       refine ac rfl (by
         intro k _nm ρ σm hJ hoff hdep
         have e19 := hdep 9 rfl rfl 19 rfl
         exact dp_skip (wanted_no rfl (yv_of rfl (e19.trans (congrArg B hb21)))) rfl hJ) ?_
       refine ac rfl (by
         intro k _nm ρ σm hJ hoff hdep
         have e19 := hdep 9 rfl rfl 19 rfl
         exact dp_skip (wanted_no rfl (yv_of rfl (e19.trans (congrArg B hb21)))) rfl hJ) ?_
       refine ac rfl (by
         intro k _nm ρ σm hJ hoff hdep
         have e19 := hdep 9 rfl rfl 19 rfl
         exact dp_skip (wanted_no rfl (yv_of rfl (e19.trans (congrArg B hb21)))) rfl hJ) ?_
       refine ac rfl (by
         intro k _nm ρ σm hJ hoff hdep
         have e19 := hdep 9 rfl rfl 19 rfl
         exact dp_skip (wanted_no rfl (yv_of rfl (e19.trans (congrArg B hb21)))) rfl hJ) ?_
       refine ac rfl (by
         intro k _nm ρ σm hJ hoff hdep
         have e19 := hdep 9 rfl rfl 19 rfl
         exact dp_skip (wanted_no rfl (yv_of rfl (e19.trans (congrArg B hb21)))) rfl hJ) ?_
       refine ac rfl (by
         intro k _nm ρ σm hJ hoff hdep
         have e19 := hdep 9 rfl rfl 19 rfl
         exact dp_skip (wanted_no rfl (yv_of rfl (e19.trans (congrArg B hb21)))) rfl hJ) ?_
       refine ac rfl (by
         intro k _nm ρ σm hJ hoff hdep
         have e19 := hdep 9 rfl rfl 19 rfl
         exact dp_skip (wanted_no rfl (yv_of rfl (e19.trans (congrArg B hb21)))) rfl hJ) ?_
       refine ac rfl (by
         intro k _nm ρ σm hJ hoff hdep
         have e19 := hdep 9 rfl rfl 19 rfl
         exact dp_skip (wanted_no rfl (yv_of rfl (e19.trans (congrArg B hb21)))) rfl hJ) ?_
       exact all_nil
      ·intro _nm ρ σ35 hJ hoff hrel
       have e0 := look_off (N := 37) (hoff 0 rfl) rfl
       have e3 := look_off (N := 37) (hoff 3 rfl) rfl
       have e16 := hrel 6 rfl 16 rfl
       have e19 := hrel 9 rfl 19 rfl
       have e24 := hrel 14 rfl 24 rfl
       have e30 := hrel 20 rfl 30 rfl
       obtain ⟨H, -⟩ := (show Hp S0 σ0 σ35 [Ch.ro 0 (Sl a13 x6.2.1 c14) x6.2.1, Ch.ro 0 (Sl Am Ak Ao) Ak] ∧ Md (cov []) σ3 σ35 from hJ)
       clear hJ Hs
       rw [fr_lookL (L := [(0, (Sl Am Ak Ao)), (3, (I s2)), (16, (B (!r16))), (19, (B (decide (0 < s2)))), (24, undef), (30, undef)]) ⟨e0, e3, e16, e19, e24, e30, trivial⟩]
       clear hoff hrel e0 e3 e16 e19 e24 e30
       refine st_skip (congrArg some hb21) (st_g (v := (B false)) (congrArg some hb19) (rv_pick_f (congrArg B hb21) rfl) (st (v := (B false)) (rv_pick_f (congrArg B hb19) rfl) (w_end ?_)))
       obtain rfl := sj h
       exact ⟨rfl, _, σ35, fr_join ⟨rfl, rfl, rfl, trivial⟩, rfl, H.sel' [1] rfl rfl⟩
   ·clear hj
    have h := h'
    clear h' H
    rintro e a w ⟨rfl, ρ, σ36, rfl, rfl, H⟩
    refine q_then ?_
    refine cd_cond o5 rfl (fun hb37 => ?_) (fun hb37 => ?_)
    ·replace h := bif_t hb37 h
     refine c_seq (rg (sa (B false) rfl (w_end (q_then (c_ret (q_blk_r (q_then_r (q_then_r (q_blk_r ?_)))))))))
     obtain rfl := sj h
     obtain rfl := hres _ rfl
     exact .inr (⟨_, rfl, rfl, _, σ36, fr_join ⟨rfl, trivial⟩, rfl, H.sel' [] rfl rfl⟩)
    ·replace h := bif_f hb37 h
     refine c_skip (q_blk (q_then (rg (sm (I s2) rfl (st (v := (I (w64 (s2 + 1)))) (rv_add (a := s2) (b := 1) rfl rfl) (sa (I (w64 (s2 + 1))) rfl (w_end (q_then ?_))))))))
     obtain rfl := sj h
     exact ⟨_, rfl, _, σ36, fr_join ⟨rfl, rfl, trivial⟩, rfl, H.sel' [0] rfl rfl⟩
  ·replace h := bif_f hb4 h
   refine c_exit (q_then_x (q_then_x (q_blk_hit ?_)))
   obtain rfl := sj h
   obtain rfl := hres _ rfl
   exact .inl ⟨_, rfl, rfl, _, σ3, fr_join ⟨rfl, trivial⟩, rfl, H.sel' [0] rfl rfl⟩
 ·clear hj
  have h := h'
  clear h' H
  rintro e a w (⟨t38, rfl, rfl, ρ, σ39, rfl, rfl, H⟩ | ⟨t40, rfl, rfl, ρ, σ41, rfl, rfl, H⟩)
  ·replace h := selim_l h
   refine q_then (c_seq (rg (sm (Sl Am Ak Ao) rfl (st (v := (I (Ak.length : Int))) (rv_len Tryz.underlying27 rfl) (st (v := (B (decide ((Ak.length : Int) ≤ 16)))) (rv_leq (a := (Ak.length : Int)) (b := 16) rfl rfl) (sa (B (decide ((Ak.length : Int) ≤ 16))) rfl (w_end (q_then (c_ret ?_)))))))))
   obtain rfl := sj h
   exact fin_ret (v := (B (decide ((Ak.length : Int) ≤ 16)))) (results_ok Tryz.results45 (res_tmp (v := (B (decide ((Ak.length : Int) ≤ 16)))) rfl res_nil) rfl) ⟨rfl, rfl⟩ (H.sel' [] rfl rfl)
  ·replace h := selim_r h
   refine q_then_r ?_
   obtain rfl := sj h
   exact fin_ret (v := (B t40)) (results_ok Tryz.results45 (res_tmp (v := (B t40)) rfl res_nil) rfl) ⟨rfl, rfl⟩ (H.sel' [] rfl rfl)

theorem c_spec_validKind {Aw : Int}  {r : Bool} (h : M.spec_validKind Aw = some r) :
    Cal2 Tryz.prog 46 [(I Aw)] [] (fun n0 v L => v = (B r) ∧ L = []) := by
 refine cal2 (n := 5) Tryz.func46 rfl rfl rfl rfl ?_
 intro S0 σ0 n0 hn0 H
 unfold M.spec_validKind at h
 refine c_seq (rg (sa (B false) rfl (w_end (q_then (c_seq (rg (sm (I Aw) rfl ?_)))))))
 revert h; refine br fun r1 hx2 h => ?_
 have hc3 := c_spec_inRange hx2
 refine st_call (cx_call hc3 (ent_f hc3.fn rfl) hn0 (H.sel' [] rfl rfl : Hp S0 σ0 _ ([] ++ _))) wn ?_
 rintro _ σ4 ⟨_, ⟨rfl, rfl⟩, H, -⟩
 replace H : Hp _ _ _ [] := H
 refine sa (B r1) rfl (w_end (q_then (c_ret ?_)))
 obtain rfl := sj h
 exact fin_ret (v := (B r1)) (results_ok Tryz.results46 (res_tmp (v := (B r1)) rfl res_nil) rfl) ⟨rfl, rfl⟩ (H.sel' [] rfl rfl)

theorem c_spec_validQuery {Ak : List (Int × (List Int) × Int)} {Ax : Int} {Ay : List Int} {Am : Option Addr} {Ao : Nat} {Az : Option Addr} {Ba : Nat} {r : Bool} (h : M.spec_validQuery Ak Ax Ay = some r) :
    Cal2 Tryz.prog 24 [(Sl Am Ak Ao), (I Ax), (Sl Az Ay Ba)] [Ch.ro 0 (Sl Am Ak Ao) Ak, Ch.ro 0 (Sl Az Ay Ba) Ay] (fun n0 v L => v = (B r) ∧ L = []) := by
 refine cal2 (n := 17) Tryz.func24 rfl rfl rfl rfl ?_
 intro S0 σ0 n0 hn0 H
 unfold M.spec_validQuery at h
 refine c_seq (rg (sa (B false) rfl (w_end (q_then (c_seq (rg (sm (Sl Am Ak Ao) rfl ?_)))))))
 revert h; refine br fun r1 hx2 h => ?_
 have hc3 := c_spec_validStore (Am := Am) (Ao := Ao) hx2
 refine st_call (cx_call hc3 (ent_f hc3.fn rfl) hn0 (H.sel' [0, 0, 1] rfl rfl : Hp S0 σ0 _ ([_] ++ _))) wn ?_
 rintro _ σ4 ⟨_, ⟨rfl, rfl⟩, H, -⟩
 replace H : Hp _ _ _ [_, _] := H
 refine sm (B r1) rfl ?_
 rcases Bool.eq_false_or_eq_true r1 with hb5 | hb5
 ·replace h := bif_t hb5 h
  refine st_g (v := (I Ax)) (congrArg some hb5) (rv_move rfl) ?_
  revert h; refine br fun r6 hx7 h => ?_
  have hc8 := c_spec_validKind hx7
  refine st_call (cx_call hc8 (ent_f hc8.fn rfl) hn0 (H.sel' [0, 1] rfl rfl : Hp S0 σ0 _ ([] ++ _))) (wanted_yes rfl (by exact (congrArg some hb5))) ?_
  rintro _ σ9 ⟨_, ⟨rfl, rfl⟩, H, -⟩
  replace H : Hp _ _ _ [_, _] := H
  refine st (v := (B r6)) (rv_pick_t (congrArg B hb5) rfl) (sm (B r6) rfl ?_)
  rcases Bool.eq_false_or_eq_true r6 with hb10 | hb10
  ·replace h := bif_t hb10 h
   refine st_g (v := (Sl Az Ay Ba)) (congrArg some hb10) (rv_move rfl) ?_
   revert h; refine br fun r11 hx12 h => ?_
   have hc13 := c_spec_isVector (Aq := Az) (Ar := Ba) hx12
   refine st_call (cx_call hc13 (ent_f hc13.fn rfl) hn0 (H.sel' [1, 0, 1] rfl rfl : Hp S0 σ0 _ ([_] ++ _))) (wanted_yes rfl (by exact (congrArg some hb10))) ?_
   rintro _ σ14 ⟨_, ⟨rfl, rfl⟩, H, -⟩
   replace H : Hp _ _ _ [_, _] := H
   refine st (v := (B r11)) (rv_pick_t (congrArg B hb10) rfl) (sa (B r11) rfl (w_end (q_then (c_ret ?_))))
   obtain rfl := sj h
   exact fin_ret (v := (B r11)) (results_ok Tryz.results24 (res_tmp (v := (B r11)) rfl res_nil) rfl) ⟨rfl, rfl⟩ (H.sel' [] rfl rfl)
  ·replace h := bif_f hb10 h
   refine st_skip (congrArg some hb10) (st_skip (congrArg some hb10) (st (v := (B false)) (rv_pick_f (congrArg B hb10) rfl) (sa (B false) rfl (w_end (q_then (c_ret ?_))))))
   obtain rfl := sj h
   exact fin_ret (v := (B false)) (results_ok Tryz.results24 (res_tmp (v := (B false)) rfl res_nil) rfl) ⟨rfl, rfl⟩ (H.sel' [] rfl rfl)
 ·replace h := bif_f hb5 h
  refine st_skip (congrArg some hb5) (st_skip (congrArg some hb5) (st (v := (B false)) (rv_pick_f (congrArg B hb5) rfl) (sm (B false) rfl (st_skip rfl (st_skip rfl (st (v := (B false)) (rv_pick_f rfl rfl) (sa (B false) rfl (w_end (q_then (c_ret ?_))))))))))
  obtain rfl := sj h
  exact fin_ret (v := (B false)) (results_ok Tryz.results24 (res_tmp (v := (B false)) rfl res_nil) rfl) ⟨rfl, rfl⟩ (H.sel' [] rfl rfl)

theorem c_spec_isMetric {Aw : Int}  {r : Bool} (h : M.spec_isMetric Aw = some r) :
    Cal2 Tryz.prog 25 [(I Aw)] [] (fun n0 v L => v = (B r) ∧ L = []) := by
 refine cal2 (n := 9) Tryz.func25 rfl rfl rfl rfl ?_
 intro S0 σ0 n0 hn0 H
 unfold M.spec_isMetric at h
 refine c_seq (rg (sa (B false) rfl (w_end (q_then (c_seq (rg (sm (I Aw) rfl ?_)))))))
 revert h; refine br fun r1 hx2 h => ?_
 have hc3 := c_spec_validKind hx2
 refine st_call (cx_call hc3 (ent_f hc3.fn rfl) hn0 (H.sel' [] rfl rfl : Hp S0 σ0 _ ([] ++ _))) wn ?_
 rintro _ σ4 ⟨_, ⟨rfl, rfl⟩, H, -⟩
 replace H : Hp _ _ _ [] := H
 refine sm (B r1) rfl ?_
 rcases Bool.eq_false_or_eq_true r1 with hb5 | hb5
 ·replace h := bif_t hb5 h
  refine st_g (v := (I Aw)) (congrArg some hb5) (rv_move rfl) (st_g (v := (B (Aw != 3))) (congrArg some hb5) (rv_neq (a := Aw) (b := 3) rfl rfl) (st (v := (B (Aw != 3))) (rv_pick_t (congrArg B hb5) rfl) (sa (B (Aw != 3)) rfl (w_end (q_then (c_ret ?_))))))
  obtain rfl := sj h
  exact fin_ret (v := (B (Aw != 3))) (results_ok Tryz.results25 (res_tmp (v := (B (Aw != 3))) rfl res_nil) rfl) ⟨rfl, rfl⟩ (H.sel' [] rfl rfl)
 ·replace h := bif_f hb5 h
  refine st_skip (congrArg some hb5) (st_skip (congrArg some hb5) (st (v := (B false)) (rv_pick_f (congrArg B hb5) rfl) (sa (B false) rfl (w_end (q_then (c_ret ?_))))))
  obtain rfl := sj h
  exact fin_ret (v := (B false)) (results_ok Tryz.results25 (res_tmp (v := (B false)) rfl res_nil) rfl) ⟨rfl, rfl⟩ (H.sel' [] rfl rfl)

theorem c_spec_size {Ah : Int}  {r : Int} (h : M.spec_size Ah = some r) :
    Cal2 Tryz.prog 90 [(I Ah)] [] (fun n0 v L => v = (I r) ∧ L = []) := by
 refine cal2 (n := 7) Tryz.func90 rfl rfl rfl rfl ?_
 intro S0 σ0 n0 hn0 H
 unfold M.spec_size at h
 refine c_seq (rg (sa (I 0) rfl (w_end (q_then (c_seq (rg (sm (I Ah) rfl (sm (I Ah) rfl (st (v := (I (w64 (0 - Ah)))) (rv_neg (a := Ah) rfl) (st (v := (I (max Ah (w64 (0 - Ah))))) (rv_max rfl rfl) (sa (I (max Ah (w64 (0 - Ah)))) rfl ?_)))))))))))
 refine w_end (q_then (c_ret ?_))
 obtain rfl := sj h
 exact fin_ret (v := (I (max Ah (w64 (0 - Ah))))) (results_ok Tryz.results90 (res_tmp (v := (I (max Ah (w64 (0 - Ah))))) rfl res_nil) rfl) ⟨rfl, rfl⟩ (H.sel' [] rfl rfl)

theorem c_spec_toInt {Bb : Bool}  {r : Int} (h : M.spec_toInt Bb = some r) :
    Cal2 Tryz.prog 91 [(B Bb)] [] (fun n0 v L => v = (I r) ∧ L = []) := by
 refine cal2 (n := 4) Tryz.func91 rfl rfl rfl rfl ?_
 intro S0 σ0 n0 hn0 H
 unfold M.spec_toInt at h
 refine c_seq (rg (sa (I 0) rfl (w_end (q_then (c_seq (c_seq (rg (sm (B Bb) rfl (w_end (q_then ?_))))))))))
 refine cd_cond Bb rfl (fun hb1 => ?_) (fun hb1 => ?_)
 ·replace h := bif_t hb1 h
  refine c_seq (rg (sa (I 1) rfl (w_end (q_then (c_ret (q_then_r ?_))))))
  obtain rfl := sj h
  exact fin_ret (v := (I 1)) (results_ok Tryz.results91 (res_tmp (v := (I 1)) rfl res_nil) rfl) ⟨rfl, rfl⟩ (H.sel' [] rfl rfl)
 ·replace h := bif_f hb1 h
  refine c_skip (q_then (c_seq (rg (sa (I 0) rfl (w_end (q_then (c_ret ?_)))))))
  obtain rfl := sj h
  exact fin_ret (v := (I 0)) (results_ok Tryz.results91 (res_tmp (v := (I 0)) rfl res_nil) rfl) ⟨rfl, rfl⟩ (H.sel' [] rfl rfl)

theorem c_spec_dist {Aw : Int} {Bc : List Int} {Bd : List Int} {Be : Option Addr} {Bf : Nat} {Bg : Option Addr} {Bh : Nat} {r : Int} (h : M.spec_dist Aw Bc Bd = some r) :
    Cal2 Tryz.prog 64 [(I Aw), (Sl Be Bc Bf), (Sl Bg Bd Bh)] [Ch.ro 0 (Sl Be Bc Bf) Bc, Ch.ro 0 (Sl Bg Bd Bh) Bd] (fun n0 v L => v = (I r) ∧ L = []) := by
 refine cal2 (n := 50) Tryz.func64 rfl rfl rfl rfl ?_
 intro S0 σ0 n0 hn0 H
 unfold M.spec_dist at h
 refine c_seq (rg (sa (I 0) rfl (w_end (q_then (c_seq (rg (sa (I 0) rfl (w_end (q_then (c_seq (c_seq ?_)))))))))))
 refine rg (sa (I 0) rfl (w_end (q_then ?_)))
 obtain ⟨o1, hj, h'⟩ := bind_some h
 clear h
 refine c_cut (fun e a w => e = .normal ∧ ∃ (ρ : Nat → Value) (σ : St), a = fr 50 (updL ρ [(7, (I o1))]) ∧ w = σ.w ∧ Hp S0 σ0 σ []) ?_ ?_
 ·clear h'
  rename _ = some o1 => h
  refine c_blk (wp_loopM _ h (fun s2 a w => ∃ (ρ : Nat → Value) (σ : St), a = fr 50 (updL ρ [(0, (I Aw)), (1, (Sl Be Bc Bf)), (2, (Sl Bg Bd Bh)), (7, (I s2.1)), (8, (I s2.2))]) ∧ w = σ.w ∧ Hp S0 σ0 σ [Ch.ro 0 (Sl Be Bc Bf) Bc, Ch.ro 0 (Sl Bg Bd Bh) Bd]) ⟨_, σ0, fr_join ⟨rfl, rfl, rfl, rfl, rfl, trivial⟩, rfl, H.sel' [0, 1] rfl rfl⟩ ?_)
  clear h H
  rintro s2 a w o ⟨ρ, σ3, rfl, rfl, H⟩ h hres
  refine c_seq (c_seq (rg (sm (I s2.2) rfl (sm (Sl Be Bc Bf) rfl (st (v := (I (Bc.length : Int))) (rv_len Tryz.underlying23 rfl) (st (v := (B (decide (s2.2 < (Bc.length : Int))))) (rv_lss (a := s2.2) (b := (Bc.length : Int)) rfl rfl) (w_end (q_then ?_))))))))
  refine cd_cond (decide (s2.2 < (Bc.length : Int))) rfl (fun hb4 => ?_) (fun hb4 => ?_)
  ·replace h := bif_t hb4 h
   refine c_skip (q_then (c_seq ?_))
   obtain ⟨o5, hj, h'⟩ := bind_some h
   clear h
   refine c_cut (fun e a w => e = .normal ∧ ∃ (ρ : Nat → Value) (σ : St), a = fr 50 (updL ρ [(0, (I Aw)), (1, (Sl Be Bc Bf)), (2, (Sl Bg Bd Bh)), (7, (I o5)), (8, (I s2.2))]) ∧ w = σ.w ∧ Hp S0 σ0 σ [Ch.ro 0 (Sl Be Bc Bf) Bc, Ch.ro 0 (Sl Bg Bd Bh) Bd]) ?_ ?_
   ·clear h'
    rename _ = some o5 => h
    refine c_blk (c_seq ?_)
    refine rgP (σ := σ3) 8 (by kernel_rfl) (by kernel_rfl) (by kernel_rfl) ?_
    refine sq (v := (Sl Be Bc Bf)) (rv_move rfl) (sq (v := (I s2.2)) (rv_move rfl) ?_)
    revert h; refine br fun x6 hx7 h => ?_
    obtain ⟨b9, o10, hi8, -⟩ := (H.ro 0 rfl).ix hx7
    refine sq (v := (pt b9 o10)) (rv_ix Tryz.underlying23 ti3 rfl rfl hi8) ?_
    have hc11 := ((H.ro 0 rfl).at hx7 hi8).int
    refine sq (v := (I x6)) (rv_load1 Tryz.underlying3 rfl rfl hc11) (sq (v := (Sl Bg Bd Bh)) (rv_move rfl) (sq (v := (I s2.2)) (rv_move rfl) ?_))
    revert h; refine br fun x12 hx13 h => ?_
    obtain ⟨b15, o16, hi14, -⟩ := (H.ro 1 rfl).ix hx13
    refine sq (v := (pt b15 o16)) (rv_ix Tryz.underlying23 ti3 rfl rfl hi14) ?_
    have hc17 := ((H.ro 1 rfl).at hx13 hi14).int
    refine sq (v := (I x12)) (rv_load1 Tryz.underlying3 rfl rfl hc17) (sq_end ?_)
    intro σ18 hm19
    replace H := H.grow (hm19.mono fun _ h => h); clear hm19
    refine st (v := (I (w64 (x6 - x12)))) (rv_sub (a := x6) (b := x12) rfl rfl) ?_
    revert h; refine br fun r20 hx21 h => ?_
    have hc22 := c_spec_size hx21
    refine st_call (cx_call hc22 (ent_f hc22.fn rfl) hn0 (H.sel' [0, 1] rfl rfl : Hp S0 σ0 _ ([] ++ _))) wn ?_
    rintro _ σ23 ⟨_, ⟨rfl, rfl⟩, H, -⟩
    replace H : Hp _ _ _ [_, _] := H
    refine sa (I r20) rfl (w_end (q_then (c_seq (rg (sm (I Aw) rfl (w_end (q_then (c_blk (c_seq (rg (st (v := (B (Aw == 1))) (rv_eql (a := Aw) (b := 1) rfl rfl) ?_)))))))))))
    refine sa (B (Aw == 1)) rfl (w_end (q_then ?_))
    refine cd_cond (Aw == 1) rfl (fun hb24 => ?_) (fun hb24 => ?_)
    ·replace h := bif_t hb24 h
     refine rg (sm (I s2.1) rfl (sm (I r20) rfl (st (v := (I (w64 (s2.1 + r20)))) (rv_add (a := s2.1) (b := r20) rfl rfl) (sa (I (w64 (s2.1 + r20))) rfl (w_end (q_blk (q_blk ?_)))))))
     obtain rfl := sj h
     exact ⟨rfl, _, σ23, fr_join ⟨rfl, rfl, rfl, rfl, rfl, trivial⟩, rfl, H.sel' [0, 1] rfl rfl⟩
    ·replace h := bif_f hb24 h
     refine c_seq (rg (st (v := (B (Aw == 2))) (rv_eql (a := Aw) (b := 2) rfl rfl) (sa (B (Aw == 2)) rfl (w_end (q_then ?_)))))
     refine cd_cond (Aw == 2) rfl (fun hb25 => ?_) (fun hb25 => ?_)
     ·replace h := bif_t hb25 h
      refine rg (sm (I s2.1) rfl (sm (I r20) rfl (st (v := (I (max s2.1 r20))) (rv_max rfl rfl) (sa (I (max s2.1 r20)) rfl (w_end (q_blk (q_blk ?_)))))))
      obtain rfl := sj h
      exact ⟨rfl, _, σ23, fr_join ⟨rfl, rfl, rfl, rfl, rfl, trivial⟩, rfl, H.sel' [0, 1] rfl rfl⟩
     ·replace h := bif_f hb25 h
      refine c_seq (rg (st (v := (B (Aw == 3))) (rv_eql (a := Aw) (b := 3) rfl rfl) (sa (B (Aw == 3)) rfl (w_end (q_then ?_)))))
      refine cd_cond (Aw == 3) rfl (fun hb26 => ?_) (fun hb26 => ?_)
      ·replace h := bif_t hb26 h
       refine rg (sm (I s2.1) rfl (sm (I r20) rfl (sm (I r20) rfl (st (v := (I (w64 (r20 * r20)))) (rv_mul (a := r20) (b := r20) rfl rfl) (st (v := (I (w64 (s2.1 + (w64 (r20 * r20)))))) (rv_add (a := s2.1) (b := (w64 (r20 * r20))) rfl rfl) (sa (I (w64 (s2.1 + (w64 (r20 * r20))))) rfl (w_end (q_blk (q_blk ?_)))))))))
       obtain rfl := sj h
       exact ⟨rfl, _, σ23, fr_join ⟨rfl, rfl, rfl, rfl, rfl, trivial⟩, rfl, H.sel' [0, 1] rfl rfl⟩
      ·replace h := bif_f hb26 h
       refine rg (sm (I s2.1) rfl (sm (I r20) rfl (st (v := (B (decide (0 < r20)))) (rv_gtr (a := r20) (b := 0) rfl rfl) ?_)))
       revert h; refine br fun r27 hx28 h => ?_
       have hc29 := c_spec_toInt hx28
       refine st_call (cx_call hc29 (ent_f hc29.fn rfl) hn0 (H.sel' [0, 1] rfl rfl : Hp S0 σ0 _ ([] ++ _))) wn ?_
       rintro _ σ30 ⟨_, ⟨rfl, rfl⟩, H, -⟩
       replace H : Hp _ _ _ [_, _] := H
       refine st (v := (I (w64 (s2.1 + r27)))) (rv_add (a := s2.1) (b := r27) rfl rfl) (sa (I (w64 (s2.1 + r27))) rfl (w_end (q_blk (q_blk ?_))))
       obtain rfl := sj h
       exact ⟨rfl, _, σ30, fr_join ⟨rfl, rfl, rfl, rfl, rfl, trivial⟩, rfl, H.sel' [0, 1] rfl rfl⟩
   ·clear hj
    have h := h'
    clear h' H
    rintro e a w ⟨rfl, ρ, σ31, rfl, rfl, H⟩
    refine q_then (rg (sm (I s2.2) rfl (st (v := (I (w64 (s2.2 + 1)))) (rv_add (a := s2.2) (b := 1) rfl rfl) (sa (I (w64 (s2.2 + 1))) rfl (w_end (q_then ?_))))))
    obtain rfl := sj h
    exact ⟨_, rfl, _, σ31, fr_join ⟨rfl, rfl, rfl, rfl, rfl, trivial⟩, rfl, H.sel' [0, 1] rfl rfl⟩
  ·replace h := bif_f hb4 h
   refine c_exit (q_then_x (q_then_x (q_blk_hit ?_)))
   obtain rfl := sj h
   obtain rfl := hres _ rfl
   exact ⟨rfl, _, σ3, fr_join ⟨rfl, trivial⟩, rfl, H.sel' [] rfl rfl⟩
 ·clear hj
  have h := h'
  clear h' H
  rintro e a w ⟨rfl, ρ, σ32, rfl, rfl, H⟩
  refine q_then (c_seq (rg (sm (I o1) rfl (sa (I o1) rfl (w_end (q_then (c_ret ?_)))))))
  obtain rfl := sj h
  exact fin_ret (v := (I o1)) (results_ok Tryz.results64 (res_tmp (v := (I o1)) rfl res_nil) rfl) ⟨rfl, rfl⟩ (H.sel' [] rfl rfl)

theorem c_spec_nearer {Aa : Int × Int} {Bi : Int × Int}  {r : Bool} (h : M.spec_nearer Aa Bi = some r) :
    Cal2 Tryz.prog 89 [(.agg #[(I Aa.1), (I Aa.2)]), (.agg #[(I Bi.1), (I Bi.2)])] [] (fun n0 v L => v = (B r) ∧ L = []) := by
 refine cal2 (n := 24) Tryz.func89 rfl rfl rfl rfl ?_
 intro S0 σ0 n0 hn0 H
 unfold M.spec_nearer at h
 refine c_seq (rg (st_ex (ex_box (cs := [(I Aa.1), (I Aa.2)]) H hn0 rfl rfl) wn ?_))
 rintro _ σ2 ⟨b1, rfl, H, -⟩
 refine st_ex (ex_box (cs := [(I Bi.1), (I Bi.2)]) H hn0 rfl rfl) wn ?_
 rintro _ σ4 ⟨b3, rfl, H, -⟩
 refine sa (B false) rfl (w_end (q_then (c_seq (rg (st (v := (pt b1 1)) (rv_fieldAddr (off := 1) (ft := 3) Tryz.underlying67 rfl ti3 rfl rfl) ?_)))))
 have hc5 := H.cell (u := (I Aa.2)) (o' := 1) 1 1 rfl rfl rfl
 refine st (v := (I Aa.2)) (rv_load1 Tryz.underlying3 rfl rfl hc5) (st (v := (pt b3 1)) (rv_fieldAddr (off := 1) (ft := 3) Tryz.underlying67 rfl ti3 rfl rfl) ?_)
 have hc6 := H.cell (u := (I Bi.2)) (o' := 1) 0 1 rfl rfl rfl
 refine st (v := (I Bi.2)) (rv_load1 Tryz.underlying3 rfl rfl hc6) (st (v := (B (decide (Aa.2 < Bi.2)))) (rv_lss (a := Aa.2) (b := Bi.2) rfl rfl) (sm (B (decide (Aa.2 < Bi.2))) rfl ?_))
 rcases Bool.eq_false_or_eq_true (decide (Aa.2 < Bi.2)) with hb7 | hb7
 ·replace h := bif_t hb7 h
  refine st_skip (congrArg some hb7) (st_skip (congrArg some hb7) (st_skip (congrArg some hb7) (st_skip (congrArg some hb7) (st_skip (congrArg some hb7) (st_skip (congrArg some hb7) (st_skip_u rfl (st_skip_u rfl (st_skip_u rfl (st_skip_u rfl (st_skip_u rfl (st_skip (congrArg some hb7) ?_)))))))))))
  refine st (v := (B true)) (rv_pick_t (congrArg B hb7) rfl) (sa (B true) rfl (w_end (q_then (c_ret ?_))))
  obtain rfl := sj h
  exact fin_ret (v := (B true)) (results_ok Tryz.results89 (res_tmp (v := (B true)) rfl res_nil) rfl) ⟨rfl, rfl⟩ (H.sel' [] rfl rfl)
 ·replace h := bif_f hb7 h
  refine st_g (v := (pt b1 1)) (congrArg some hb7) (rv_fieldAddr (off := 1) (ft := 3) Tryz.underlying67 rfl ti3 rfl rfl) ?_
  have hc8 := H.cell (u := (I Aa.2)) (o' := 1) 1 1 rfl rfl rfl
  refine st_g (v := (I Aa.2)) (congrArg some hb7) (rv_load1 Tryz.underlying3 rfl rfl hc8) (st_g (v := (pt b3 1)) (congrArg some hb7) (rv_fieldAddr (off := 1) (ft := 3) Tryz.underlying67 rfl ti3 rfl rfl) ?_)
  have hc9 := H.cell (u := (I Bi.2)) (o' := 1) 0 1 rfl rfl rfl
  refine st_g (v := (I Bi.2)) (congrArg some hb7) (rv_load1 Tryz.underlying3 rfl rfl hc9) (st_g (v := (B (Aa.2 == Bi.2))) (congrArg some hb7) (rv_eql (a := Aa.2) (b := Bi.2) rfl rfl) (st_g (v := (B (Aa.2 == Bi.2))) (congrArg some hb7) (rv_move rfl) ?_))
  rcases Bool.eq_false_or_eq_true (Aa.2 == Bi.2) with hb10 | hb10
  ·replace h := bif_t hb10 h
   refine st_g (v := (pt b1 0)) (congrArg some hb10) (rv_fieldAddr (off := 0) (ft := 3) Tryz.underlying67 rfl ti3 rfl rfl) ?_
   have hc11 := H.cell (u := (I Aa.1)) (o' := 0) 1 0 rfl rfl rfl
   refine st_g (v := (I Aa.1)) (congrArg some hb10) (rv_load1 Tryz.underlying3 rfl rfl hc11) (st_g (v := (pt b3 0)) (congrArg some hb10) (rv_fieldAddr (off := 0) (ft := 3) Tryz.underlying67 rfl ti3 rfl rfl) ?_)
   have hc12 := H.cell (u := (I Bi.1)) (o' := 0) 0 0 rfl rfl rfl
   refine st_g (v := (I Bi.1)) (congrArg some hb10) (rv_load1 Tryz.underlying3 rfl rfl hc12) (st_g (v := (B (decide (Aa.1 < Bi.1)))) (congrArg some hb10) (rv_lss (a := Aa.1) (b := Bi.1) rfl rfl) (st_g (v := (B (decide (Aa.1 < Bi.1)))) (congrArg some hb7) (rv_pick_t (congrArg B hb10) rfl) (st (v := (B (decide (Aa.1 < Bi.1)))) (rv_pick_f (congrArg B hb7) rfl) (sa (B (decide (Aa.1 < Bi.1))) rfl (w_end (q_then (c_ret ?_)))))))
   obtain rfl := sj h
   exact fin_ret (v := (B (decide (Aa.1 < Bi.1)))) (results_ok Tryz.results89 (res_tmp (v := (B (decide (Aa.1 < Bi.1)))) rfl res_nil) rfl) ⟨rfl, rfl⟩ (H.sel' [] rfl rfl)
  ·replace h := bif_f hb10 h
   refine st_skip (congrArg some hb10) (st_skip (congrArg some hb10) (st_skip (congrArg some hb10) (st_skip (congrArg some hb10) (st_skip (congrArg some hb10) (st_g (v := (B false)) (congrArg some hb7) (rv_pick_f (congrArg B hb10) rfl) (st (v := (B false)) (rv_pick_f (congrArg B hb7) rfl) (sa (B false) rfl (w_end (q_then (c_ret ?_))))))))))
   obtain rfl := sj h
   exact fin_ret (v := (B false)) (results_ok Tryz.results89 (res_tmp (v := (B false)) rfl res_nil) rfl) ⟨rfl, rfl⟩ (H.sel' [] rfl rfl)

theorem c_spec_hit {As : Int × (List Int) × Int} {Ax : Int} {Ay : List Int} {Au : Option Addr} {Av : Nat} {Az : Option Addr} {Ba : Nat} {r : (Int × Int)} (h : M.spec_hit As Ax Ay = some r) :
    Cal2 Tryz.prog 96 [(.agg #[(I As.1), (Sl Au As.2.1 Av), (I As.2.2)]), (I Ax), (Sl Az Ay Ba)] [Ch.ro 0 (Sl Au As.2.1 Av) As.2.1, Ch.ro 0 (Sl Az Ay Ba) Ay] (fun n0 v L => v = (.agg #[(I r.1), (I r.2)]) ∧ L = []) := by
 refine cal2 (n := 15) Tryz.func96 rfl rfl rfl rfl ?_
 intro S0 σ0 n0 hn0 H
 unfold M.spec_hit at h
 refine c_seq (rg (st_ex (ex_box (cs := [(I As.1), (Sl Au As.2.1 Av), (I As.2.2)]) H hn0 rfl rfl) wn ?_))
 rintro _ σ2 ⟨b1, rfl, H, -⟩
 refine st_ex (ex_alloc (cs := [(I 0), (I 0)]) H hn0 ti67 rfl) wn ?_
 rintro _ σ4 ⟨b3, rfl, H, -⟩
 refine w_end (q_then (c_seq ?_))
 have hc5 := H.cell (u := (I As.1)) (o' := 0) 1 0 rfl rfl rfl
 have hc6 := H.cell (u := (Sl Au As.2.1 Av)) (o' := 1) 1 1 rfl rfl rfl
 revert h; refine br fun r7 hx8 h => ?_
 have hc9 := c_spec_dist (Be := Au) (Bf := Av) (Bg := Az) (Bh := Ba) hx8
 have Hs := H
 refine rg2 (σ := σ4) (Nm := Unit) 7 [6] [[false], [true]] [[(0, 0), (1, 1)], [(0, 0), (1, 1)], [(0, 0)], [(0, 0)], [(0, 0)], [(0, 0)], [(0, 1)]] 1 [fun _ => fun σm => Hp S0 σ0 σm [Ch.bx n0 b3 0 [(I 0), (I 0)] [] [], Ch.bx n0 b1 0 [(I As.1), (Sl Au As.2.1 Av), (I As.2.2)] [] [], Ch.ro 0 (Sl Au As.2.1 Av) As.2.1, Ch.ro 0 (Sl Az Ay Ba) Ay] ∧ Md (cov []) σ4 σm, fun _ => fun σm => Hp S0 σ0 σm [Ch.bx n0 b3 0 [(I 0), (I 0)] [] [], Ch.bx n0 b1 0 [(I As.1), (Sl Au As.2.1 Av), (I As.2.2)] [] [], Ch.ro 0 (Sl Au As.2.1 Av) As.2.1, Ch.ro 0 (Sl Az Ay Ba) Ay] ∧ Md (cov []) σ4 σm] [fun _ => (pt b1 0), fun _ => (I As.1), fun _ => (I Ax), fun _ => (pt b1 1), fun _ => (Sl Au As.2.1 Av), fun _ => (Sl Az Ay Ba), fun _ => (I r7)] () (by kernel_rfl) (by kernel_rfl) ?_ ?_ ?_
 ·intro σm m0
  exact ⟨H.grow (m0.mono fun _ h => h.elim), m0⟩
 ·refine ac rfl (by
    intro k _nm ρ σm hJ hoff hdep
    have e3 := look_off (N := 15) (hoff 3 rfl) rfl
    exact dp_v (v := (pt b1 0)) wn (rv_fieldAddr (off := 0) (ft := 3) Tryz.underlying54 rfl ti3 rfl e3) rfl hJ) ?_
  refine all_cons (by
    refine ⟨?_, ?_⟩
    ·intro _nm ρ σm hJ hoff hdep
     have e7 := hdep 0 rfl rfl 7 rfl
     obtain ⟨H, m⟩ := id hJ
     have hc5 := H.cell (u := (I As.1)) (o' := 0) 1 0 rfl rfl rfl
     exact dp_v (v := (I As.1)) wn (rv_load1 Tryz.underlying3 rfl e7 hc5) rfl hJ
    refine ⟨?_, ?_⟩
    ·intro _nm ρ σm hJ hoff hdep
     have e7 := hdep 0 rfl rfl 7 rfl
     obtain ⟨H, m⟩ := id hJ
     have hc5 := H.cell (u := (I As.1)) (o' := 0) 1 0 rfl rfl rfl
     exact dp_v (v := (I As.1)) wn (rv_load1 Tryz.underlying3 rfl e7 hc5) rfl hJ
    trivial) ?_
  refine ac rfl (by
    intro k _nm ρ σm hJ hoff hdep
    have e1 := look_off (N := 15) (hoff 1 rfl) rfl
    exact dp_v (v := (I Ax)) wn (rv_move e1) rfl hJ) ?_
  refine ac rfl (by
    intro k _nm ρ σm hJ hoff hdep
    have e3 := look_off (N := 15) (hoff 3 rfl) rfl
    exact dp_v (v := (pt b1 1)) wn (rv_fieldAddr (off := 1) (ft := 23) Tryz.underlying54 rfl ti23 rfl e3) rfl hJ) ?_
  refine all_cons (by
    refine ⟨?_, ?_⟩
    ·intro _nm ρ σm hJ hoff hdep
     have e10 := hdep 3 rfl rfl 10 rfl
     obtain ⟨H, m⟩ := id hJ
     have hc6 := H.cell (u := (Sl Au As.2.1 Av)) (o' := 1) 1 1 rfl rfl rfl
     exact dp_v (v := (Sl Au As.2.1 Av)) wn (rv_load1 Tryz.underlying23 rfl e10 hc6) rfl hJ
    trivial) ?_
  refine ac rfl (by
    intro k _nm ρ σm hJ hoff hdep
    have e2 := look_off (N := 15) (hoff 2 rfl) rfl
    exact dp_v (v := (Sl Az Ay Ba)) wn (rv_move e2) rfl hJ) ?_
  refine all_cons (by
    refine ⟨?_, ?_⟩
    ·intro _nm ρ σm hJ hoff hdep
     have e9 : look 15 ρ 9 = (I Ax) := hdep 2 rfl rfl 9 rfl
     have e11 : look 15 ρ 11 = (Sl Au As.2.1 Av) := hdep 4 rfl rfl 11 rfl
     have e12 : look 15 ρ 12 = (Sl Az Ay Ba) := hdep 5 rfl rfl 12 rfl
     obtain ⟨H, m⟩ := id hJ
     refine dp_cx wn (cx_call hc9 (ent_f hc9.fn (by show [look 15 ρ 9, look 15 ρ 11, look 15 ρ 12] = _; rw [e9, e11, e12])) hn0 (H.sel' [2, 3, 0, 1, 2, 3] rfl rfl : Hp S0 σ0 _ ([_, _] ++ _))) ?_
     rintro _ σq ⟨_, ⟨rfl, rfl⟩, H2, m2⟩
     exact ⟨_, (), rfl, rfl, ⟨H2.sel' [0, 1, 2, 3] rfl rfl, m.comp0 (m2.mono (fun i h => by simp [cov, Ch.ro] at h))⟩, stab [0, 1, 2, 3, 4, 5] (by kernel_rfl) ⟨rfl, rfl, rfl, rfl, rfl, rfl, trivial⟩⟩
    trivial) ?_
  exact all_nil
 ·intro _nm ρ σ10 hJ hoff hrel
  have e6 := look_off (N := 15) (hoff 6 rfl) rfl
  have e8 := hrel 1 rfl 8 rfl
  have e13 := hrel 6 rfl 13 rfl
  obtain ⟨H, -⟩ := (show Hp S0 σ0 σ10 [Ch.bx n0 b3 0 [(I 0), (I 0)] [] [], Ch.bx n0 b1 0 [(I As.1), (Sl Au As.2.1 Av), (I As.2.2)] [] [], Ch.ro 0 (Sl Au As.2.1 Av) As.2.1, Ch.ro 0 (Sl Az Ay Ba) Ay] ∧ Md (cov []) σ4 σ10 from hJ)
  clear hJ Hs
  rw [fr_lookL (L := [(6, (pt b3 0)), (8, (I As.1)), (13, (I r7))]) ⟨e6, e8, e13, trivial⟩]
  clear hoff hrel e6 e8 e13
  refine st (v := (.agg #[(I As.1), (I r7)])) (rv_build (ps := [(0, (I As.1)), (1, (I r7))]) Tryz.underlying67 ti67 (bp67 Tryz.underlying67) rfl (by kernel_rfl)) ?_
  refine st_exS (ex_store_box (k := 0) (cs := [(I 0), (I 0)]) (vs := [(I As.1), (I r7)]) (cs' := [(I As.1), (I r7)]) H (i := 0) rfl ti67 rfl rfl rfl rfl rfl (Nat.le_of_ble_eq_true rfl) (by simp [plain]) rfl) wn ?_
  rintro σ11 ⟨H, -⟩
  refine w_end (q_then (c_ret ?_))
  obtain rfl := sj h
  exact fin_ret (v := (.agg #[(I As.1), (I r7)])) (results_ok Tryz.results96 (res_cell rfl (run_cellRes (cs := [(I As.1), (I r7)]) Tryz.underlying67 rfl ti67 rfl (H.cells 0 rfl)) res_nil) rfl) ⟨rfl, rfl⟩ (H.sel' [] rfl rfl)

theorem c_spec_byDist {Ak : List (Int × (List Int) × Int)} {Ax : Int} {Ay : List Int} {Am : Option Addr} {Ao : Nat} {Az : Option Addr} {Ba : Nat} {r : (List (Int × (List Int) × Int))} (h : M.spec_byDist Ak Ax Ay = some r) :
    Cal2 Tryz.prog 72 [(Sl Am Ak Ao), (I Ax), (Sl Az Ay Ba)] [Ch.ro 0 (Sl Am Ak Ao) Ak, Ch.ro 0 (Sl Az Ay Ba) Ay] (fun n0 v L => ∃ (az1 : Option Addr), ∃ (cz2 : Nat), v = (Sl az1 r cz2) ∧ L = [Ch.own n0 0 (Sl az1 r cz2) r]) := by
 refine cal2 (n := 68) Tryz.func72 rfl rfl rfl rfl ?_
 intro S0 σ0 n0 hn0 H
 unfold M.spec_byDist at h
 refine c_seq (rg (sa (.slice none 0 0) rfl (w_end (q_then (c_seq (rg ?_))))))
 refine st_ex (ex_buildSlice (el := n0) (xs := ([] : List (Int × (List Int) × Int))) (ps := []) (cs := []) H hn0 Tryz.underlying27 ti54 rfl rfl (by kernel_rfl) (.nil) rfl) wn ?_
 rintro _ σ2 ⟨b1, rfl, H, -⟩
 refine sa (Sl (some ⟨b1, 0, none⟩) ([] : List (Int × (List Int) × Int)) 0) rfl (w_end (q_then (c_seq (c_seq (rg (sa (I 0) rfl (w_end (q_then ?_))))))))
 obtain ⟨o3, hj, h'⟩ := bind_some h
 clear h
 refine c_cut (fun e a w => e = .normal ∧ ∃ (ρ : Nat → Value) (σ : St) (aj1 : Option Addr) (cj2 : Nat), a = fr 68 (updL ρ [(7, (Sl aj1 o3 cj2))]) ∧ w = σ.w ∧ Hp S0 σ0 σ [Ch.own n0 0 (Sl aj1 o3 cj2) o3]) ?_ ?_
 ·clear h'
  rename _ = some o3 => h
  refine c_blk ?_
  replace H := H.ownLow 0 n0 0 rfl (Nat.le_refl _) (Nat.zero_le _)
  refine wp_loopM _ h (fun s4 a w => ∃ (ρ : Nat → Value) (σ : St) (aj1 : Option Addr) (cj2 : Nat), a = fr 68 (updL ρ [(0, (Sl Am Ak Ao)), (1, (I Ax)), (2, (Sl Az Ay Ba)), (7, (Sl aj1 s4.1 cj2)), (8, (I s4.2))]) ∧ w = σ.w ∧ Hp S0 σ0 σ [Ch.ro 0 (Sl Am Ak Ao) Ak, Ch.ro 0 (Sl Az Ay Ba) Ay, Ch.own n0 0 (Sl aj1 s4.1 cj2) s4.1]) ⟨_, σ2, (some ⟨b1, 0, none⟩), 0, fr_join ⟨rfl, rfl, rfl, rfl, rfl, trivial⟩, rfl, H.sel' [1, 2, 0] rfl rfl⟩ ?_
  clear h H
  rintro s4 a w o ⟨ρ, σ5, a6, c7, rfl, rfl, H⟩ h hres
  refine c_seq (c_seq (rg (sm (I s4.2) rfl (sm (Sl Am Ak Ao) rfl (st (v := (I (Ak.length : Int))) (rv_len Tryz.underlying27 rfl) (st (v := (B (decide (s4.2 < (Ak.length : Int))))) (rv_lss (a := s4.2) (b := (Ak.length : Int)) rfl rfl) (w_end (q_then ?_))))))))
  refine cd_cond (decide (s4.2 < (Ak.length : Int))) rfl (fun hb8 => ?_) (fun hb8 => ?_)
  ·replace h := bif_t hb8 h
   refine c_skip (q_then (c_seq (c_blk (c_seq (rg (sm (Sl a6 s4.1 c7) rfl (sm (Sl Am Ak Ao) rfl (sm (I s4.2) rfl ?_))))))))
   revert h; refine br fun x9 hx10 h => ?_
   obtain ⟨b12, o13, hi11, -⟩ := (H.ro 0 rfl).ix hx10
   refine st (v := (pt b12 o13)) (rv_ix Tryz.underlying27 ti54 rfl rfl hi11) ?_
   obtain ⟨_, ⟨_, _, rfl, rfl, ⟨_, _, rfl, ⟨_, rfl, hR18⟩, rfl⟩⟩, hl14, hc15⟩ := ((H.ro 0 rfl).at hx10 hi11).cells
   obtain ⟨a16, c17, rfl⟩ := hR18.isSl
   replace H := H.add (d := Ch.ro 0 (Sl a16 x9.2.1 c17) x9.2.1) hR18 (fun _ h => h)
   clear hR18
   refine st (v := (.agg #[(I x9.1), (Sl a16 x9.2.1 c17), (I x9.2.2)])) (rv_load Tryz.underlying54 rfl ti54 rfl hl14 hc15) ?_
   refine st_ex (ex_buildSlice (el := 0) (xs := ([(x9.1, x9.2.1, x9.2.2)] : List (Int × (List Int) × Int))) (ps := [(0, (.agg #[(I x9.1), (Sl a16 x9.2.1 c17), (I x9.2.2)]))]) (cs := [(I x9.1), (Sl a16 x9.2.1 c17), (I x9.2.2)]) H hn0 Tryz.underlying27 ti54 rfl rfl (by kernel_rfl) (.cons (c := [(I x9.1), (Sl a16 x9.2.1 c17), (I x9.2.2)]) ⟨[(I x9.1)], [(Sl a16 x9.2.1 c17), (I x9.2.2)], rfl, rfl, ⟨[(Sl a16 x9.2.1 c17)], [(I x9.2.2)], rfl, ⟨_, rfl, (H.ro 0 rfl)⟩, rfl⟩⟩ (.nil)) rfl) wn ?_
   rintro _ σ20 ⟨b19, rfl, H, -⟩
   revert h; refine br fun xs21 hx22 h => ?_
   refine st_ex (ex_append H (i := 4) rfl Tryz.underlying27 Tryz.underlying27 ti54 rfl rfl (by decide) (H.own 0 rfl).rd hx22 hn0 rfl rfl) wn ?_
   rintro _ σ25 ⟨a23, c24, rfl, H, -⟩
   refine sa (Sl a23 xs21 c24) rfl (w_end (q_then (c_seq (rg (sm (Sl a23 xs21 c24) rfl (st (v := (I (xs21.length : Int))) (rv_len Tryz.underlying27 rfl) (st (v := (I (w64 ((xs21.length : Int) - 1)))) (rv_sub (a := (xs21.length : Int)) (b := 1) rfl rfl) (sa (I (w64 ((xs21.length : Int) - 1))) rfl (w_end (q_then ?_))))))))))
   obtain ⟨o26, hj, h'⟩ := bind_some h
   clear h
   refine c_cut (fun e a w => e = .normal ∧ ∃ (ρ : Nat → Value) (σ : St), a = fr 68 (updL ρ [(0, (Sl Am Ak Ao)), (1, (I Ax)), (2, (Sl Az Ay Ba)), (7, (Sl a23 o26 c24)), (8, (I s4.2))]) ∧ w = σ.w ∧ Hp S0 σ0 σ [Ch.ro 0 (Sl Am Ak Ao) Ak, Ch.ro 0 (Sl Az Ay Ba) Ay, Ch.own n0 0 (Sl a23 o26 c24) o26] ∧ o26.length = xs21.length) ?_ ?_
   ·clear h'
    rename _ = some o26 => h
    refine c_blk (wp_loopM _ h (fun s27 a w => ∃ (ρ : Nat → Value) (σ : St), a = fr 68 (updL ρ [(0, (Sl Am Ak Ao)), (1, (I Ax)), (2, (Sl Az Ay Ba)), (7, (Sl a23 s27.1 c24)), (8, (I s4.2)), (9, (I s27.2))]) ∧ w = σ.w ∧ Hp S0 σ0 σ [Ch.ro 0 (Sl Am Ak Ao) Ak, Ch.ro 0 (Sl Az Ay Ba) Ay, Ch.own n0 0 (Sl a23 s27.1 c24) s27.1] ∧ s27.1.length = xs21.length) ⟨_, σ25, fr_join ⟨rfl, rfl, rfl, rfl, rfl, rfl, trivial⟩, rfl, H.sel' [3, 4, 0] rfl rfl, rfl⟩ ?_)
    clear h H
    rintro s27 a w o ⟨ρ, σ28, rfl, rfl, H, hn29⟩ h hres
    refine c_seq (c_seq ?_)
    obtain ⟨o30, hj, h'⟩ := bind_some h
    clear h
    refine c_cut (fun e a w => e = .normal ∧ ∃ (ρ : Nat → Value) (σ : St), a = fr 68 (updL ρ [(0, (Sl Am Ak Ao)), (1, (I Ax)), (2, (Sl Az Ay Ba)), (7, (Sl a23 s27.1 c24)), (8, (I s4.2)), (9, (I s27.2)), (47, (B o30))]) ∧ w = σ.w ∧ Hp S0 σ0 σ [Ch.ro 0 (Sl Am Ak Ao) Ak, Ch.ro 0 (Sl Az Ay Ba) Ay, Ch.own n0 0 (Sl a23 s27.1 c24) s27.1]) ?_ ?_
    ·clear h'
     rename _ = some o30 => h
     rcases Bool.eq_false_or_eq_true (decide (0 < s27.2)) with hb31 | hb31
     ·replace h := bif_t hb31 h
      revert h; refine br fun x32 hx33 h => ?_
      obtain ⟨b35, o36, hi34, -⟩ := (H.own 2 rfl).ix hx33
      obtain ⟨_, ⟨_, _, rfl, rfl, ⟨_, _, rfl, ⟨_, rfl, hR41⟩, rfl⟩⟩, hl37, hc38⟩ := ((H.own 2 rfl).at hx33 hi34).cells
      obtain ⟨a39, c40, rfl⟩ := hR41.isSl
      replace H := H.add (d := Ch.ro 0 (Sl a39 x32.2.1 c40) x32.2.1) hR41 (fun _ h => h)
      clear hR41
      revert h; refine br fun r42 hx43 h => ?_
      have hc44 := c_spec_hit (Au := a39) (Av := c40) (Az := Az) (Ba := Ba) hx43
      revert h; refine br fun x45 hx46 h => ?_
      obtain ⟨b48, o49, hi47, -⟩ := (H.own 3 rfl).ix hx46
      obtain ⟨_, ⟨_, _, rfl, rfl, ⟨_, _, rfl, ⟨_, rfl, hR54⟩, rfl⟩⟩, hl50, hc51⟩ := ((H.own 3 rfl).at hx46 hi47).cells
      obtain ⟨a52, c53, rfl⟩ := hR54.isSl
      replace H := H.add (d := Ch.ro 0 (Sl a52 x45.2.1 c53) x45.2.1) hR54 (fun _ h => h)
      clear hR54
      have Hs := H
      refine rg2 (σ := σ28) (Nm := Unit) 17 [9] [[false], [true]] [[(0, 0)], [(0, 0)], [(0, 0)], [(0, 0)], [(0, 0)], [(0, 0)], [(0, 0)], [(0, 0)], [(0, 0)], [(0, 1)], [(0, 0), (1, 1)], [(0, 0), (1, 1)], [(0, 0), (1, 1)], [(0, 0), (1, 1)], [(0, 0), (1, 1)], [(0, 0), (1, 1)], [(0, 0), (1, 1)]] 1 [fun _ => fun σm => Hp S0 σ0 σm [Ch.ro 0 (Sl a52 x45.2.1 c53) x45.2.1, Ch.ro 0 (Sl a39 x32.2.1 c40) x32.2.1, Ch.ro 0 (Sl Am Ak Ao) Ak, Ch.ro 0 (Sl Az Ay Ba) Ay, Ch.own n0 0 (Sl a23 s27.1 c24) s27.1] ∧ Md (cov []) σ28 σm, fun _ => fun σm => Hp S0 σ0 σm [Ch.ro 0 (Sl a52 x45.2.1 c53) x45.2.1, Ch.ro 0 (Sl a39 x32.2.1 c40) x32.2.1, Ch.ro 0 (Sl Am Ak Ao) Ak, Ch.ro 0 (Sl Az Ay Ba) Ay, Ch.own n0 0 (Sl a23 s27.1 c24) s27.1] ∧ Md (cov []) σ28 σm] [fun _ => (I s27.2), fun _ => (B (decide (0 < s27.2))), fun _ => (B (decide (0 < s27.2))), fun _ => (Sl a23 s27.1 c24), fun _ => (I s27.2), fun _ => (pt b35 o36), fun _ => (.agg #[(I x32.1), (Sl a39 x32.2.1 c40), (I x32.2.2)]), fun _ => (I Ax), fun _ => (Sl Az Ay Ba), fun _ => (.agg #[(I r42.1), (I r42.2)]), fun _ => (Sl a23 s27.1 c24), fun _ => (I s27.2), fun _ => (I (w64 (s27.2 - 1))), fun _ => (pt b48 o49), fun _ => (.agg #[(I x45.1), (Sl a52 x45.2.1 c53), (I x45.2.2)]), fun _ => (I Ax), fun _ => (Sl Az Ay Ba)] () (by kernel_rfl) (by kernel_rfl) ?_ ?_ ?_
      ·intro σm m0
       exact ⟨H.grow (m0.mono fun _ h => h.elim), m0⟩
      ·refine ac rfl (by
         intro k _nm ρ σm hJ hoff hdep
         have e9 := look_off (N := 68) (hoff 9 rfl) rfl
         exact dp_v (v := (I s27.2)) wn (rv_move e9) rfl hJ) ?_
       refine ac rfl (by
         intro k _nm ρ σm hJ hoff hdep
         have e28 := hdep 0 rfl rfl 28 rfl
         exact dp_v (v := (B (decide (0 < s27.2)))) wn (rv_gtr (a := s27.2) (b := 0) e28 rfl) rfl hJ) ?_
       refine ac rfl (by
         intro k _nm ρ σm hJ hoff hdep
         have e29 := hdep 1 rfl rfl 29 rfl
         exact dp_v (v := (B (decide (0 < s27.2)))) wn (rv_move e29) rfl hJ) ?_
       refine ac rfl (by
         intro k _nm ρ σm hJ hoff hdep
         have e7 := look_off (N := 68) (hoff 7 rfl) rfl
         have e30 := hdep 2 rfl rfl 30 rfl
         exact dp_v (v := (Sl a23 s27.1 c24)) (wanted_yes rfl (yv_of rfl (e30.trans (congrArg B hb31)))) (rv_move e7) rfl hJ) ?_
       refine ac rfl (by
         intro k _nm ρ σm hJ hoff hdep
         have e9 := look_off (N := 68) (hoff 9 rfl) rfl
         have e30 := hdep 2 rfl rfl 30 rfl
         exact dp_v (v := (I s27.2)) (wanted_yes rfl (yv_of rfl (e30.trans (congrArg B hb31)))) (rv_move e9) rfl hJ) ?_
       refine ac rfl (by
         intro k _nm ρ σm hJ hoff hdep
         have e31 := hdep 3 rfl rfl 31 rfl
         have e32 := hdep 4 rfl rfl 32 rfl
         have e30 := hdep 2 rfl rfl 30 rfl
         exact dp_v (v := (pt b35 o36)) (wanted_yes rfl (yv_of rfl (e30.trans (congrArg B hb31)))) (rv_ix Tryz.underlying27 ti54 e31 e32 hi34) rfl hJ) ?_
       refine all_cons (by
         refine ⟨?_, ?_⟩
         ·intro _nm ρ σm hJ hoff hdep
          have e33 := hdep 5 rfl rfl 33 rfl
          have e30 := hdep 2 rfl rfl 30 rfl
          obtain ⟨H, m⟩ := id hJ
          replace hc38 := fun j hj => m.hcell (hc38 j hj) nocov
          exact dp_v (v := (.agg #[(I x32.1), (Sl a39 x32.2.1 c40), (I x32.2.2)])) (wanted_yes rfl (yv_of rfl (e30.trans (congrArg B hb31)))) (rv_load Tryz.underlying54 rfl ti54 e33 hl37 hc38) rfl hJ
         trivial) ?_
       refine ac rfl (by
         intro k _nm ρ σm hJ hoff hdep
         have e1 := look_off (N := 68) (hoff 1 rfl) rfl
         have e30 := hdep 2 rfl rfl 30 rfl
         exact dp_v (v := (I Ax)) (wanted_yes rfl (yv_of rfl (e30.trans (congrArg B hb31)))) (rv_move e1) rfl hJ) ?_
       refine ac rfl (by
         intro k _nm ρ σm hJ hoff hdep
         have e2 := look_off (N := 68) (hoff 2 rfl) rfl
         have e30 := hdep 2 rfl rfl 30 rfl
         exact dp_v (v := (Sl Az Ay Ba)) (wanted_yes rfl (yv_of rfl (e30.trans (congrArg B hb31)))) (rv_move e2) rfl hJ) ?_
       refine all_cons (by
         refine ⟨?_, ?_⟩
         ·intro _nm ρ σm hJ hoff hdep
          have e34 : look 68 ρ 34 = (.agg #[(I x32.1), (Sl a39 x32.2.1 c40), (I x32.2.2)]) := hdep 6 rfl rfl 34 rfl
          have e35 : look 68 ρ 35 = (I Ax) := hdep 7 rfl rfl 35 rfl
          have e36 : look 68 ρ 36 = (Sl Az Ay Ba) := hdep 8 rfl rfl 36 rfl
          have e30 := hdep 2 rfl rfl 30 rfl
          obtain ⟨H, m⟩ := id hJ
          refine dp_cx (wanted_yes rfl (yv_of rfl (e30.trans (congrArg B hb31)))) (cx_call hc44 (ent_f hc44.fn (by show [look 68 ρ 34, look 68 ρ 35, look 68 ρ 36] = _; rw [e34, e35, e36])) hn0 (H.sel' [1, 3, 0, 1, 2, 3, 4] rfl rfl : Hp S0 σ0 _ ([_, _] ++ _))) ?_
          rintro _ σq ⟨_, ⟨rfl, rfl⟩, H2, m2⟩
          exact ⟨_, (), rfl, rfl, ⟨H2.sel' [0, 1, 2, 3, 4] rfl rfl, m.comp0 (m2.mono (fun i h => by simp [cov, Ch.ro] at h))⟩, stab [0, 1, 2, 3, 4, 5, 6, 7, 8, 10, 11, 12, 13, 14, 15, 16] (by kernel_rfl) ⟨rfl, rfl, rfl, rfl, rfl, rfl, rfl, rfl, rfl, rfl, rfl, rfl, rfl, rfl, rfl, rfl, trivial⟩⟩
         trivial) ?_
       refine ac rfl (by
         intro k _nm ρ σm hJ hoff hdep
         have e7 := look_off (N := 68) (hoff 7 rfl) rfl
         have e30 := hdep 2 rfl rfl 30 rfl
         exact dp_v (v := (Sl a23 s27.1 c24)) (wanted_yes rfl (yv_of rfl (e30.trans (congrArg B hb31)))) (rv_move e7) rfl hJ) ?_
       refine ac rfl (by
         intro k _nm ρ σm hJ hoff hdep
         have e9 := look_off (N := 68) (hoff 9 rfl) rfl
         have e30 := hdep 2 rfl rfl 30 rfl
         exact dp_v (v := (I s27.2)) (wanted_yes rfl (yv_of rfl (e30.trans (congrArg B hb31)))) (rv_move e9) rfl hJ) ?_
       refine ac rfl (by
         intro k _nm ρ σm hJ hoff hdep
         have e39 := hdep 11 rfl rfl 39 rfl
         have e30 := hdep 2 rfl rfl 30 rfl
         exact dp_v (v := (I (w64 (s27.2 - 1)))) (wanted_yes rfl (yv_of rfl (e30.trans (congrArg B hb31)))) (rv_sub (a := s27.2) (b := 1) e39 rfl) rfl hJ) ?_
       refine ac rfl (by
         intro k _nm ρ σm hJ hoff hdep
         have e38 := hdep 10 rfl rfl 38 rfl
         have e40 := hdep 12 rfl rfl 40 rfl
         have e30 := hdep 2 rfl rfl 30 rfl
         exact dp_v (v := (pt b48 o49)) (wanted_yes rfl (yv_of rfl (e30.trans (congrArg B hb31)))) (rv_ix Tryz.underlying27 ti54 e38 e40 hi47) rfl hJ) ?_
       refine all_cons (by
         refine ⟨?_, ?_⟩
         ·intro _nm ρ σm hJ hoff hdep
          have e41 := hdep 13 rfl rfl 41 rfl
          have e30 := hdep 2 rfl rfl 30 rfl
          obtain ⟨H, m⟩ := id hJ
          replace hc51 := fun j hj => m.hcell (hc51 j hj) nocov
          exact dp_v (v := (.agg #[(I x45.1), (Sl a52 x45.2.1 c53), (I x45.2.2)])) (wanted_yes rfl (yv_of rfl (e30.trans (congrArg B hb31)))) (rv_load Tryz.underlying54 rfl ti54 e41 hl50 hc51) rfl hJ
         refine ⟨?_, ?_⟩
         ·intro _nm ρ σm hJ hoff hdep
          have e41 := hdep 13 rfl rfl 41 rfl
          have e30 := hdep 2 rfl rfl 30 rfl
          obtain ⟨H, m⟩ := id hJ
          replace hc51 := fun j hj => m.hcell (hc51 j hj) nocov
          exact dp_v (v := (.agg #[(I x45.1), (Sl a52 x45.2.1 c53), (I x45.2.2)])) (wanted_yes rfl (yv_of rfl (e30.trans (congrArg B hb31)))) (rv_load Tryz.underlying54 rfl ti54 e41 hl50 hc51) rfl hJ
         trivial) ?_
       refine ac rfl (by
         intro k _nm ρ σm hJ hoff hdep
         have e1 := look_off (N := 68) (hoff 1 rfl) rfl
         have e30 := hdep 2 rfl rfl 30 rfl
         exact dp_v (v := (I Ax)) (wanted_yes rfl (yv_of rfl (e30.trans (congrArg B hb31)))) (rv_move e1) rfl hJ) ?_
       refine ac rfl (by
         intro k _nm ρ σm hJ hoff hdep
         have e2 := look_off (N := 68) (hoff 2 rfl) rfl
         have e30 := hdep 2 rfl rfl 30 rfl
         exact dp_v (v := (Sl Az Ay Ba)) (wanted_yes rfl (yv_of rfl (e30.trans (congrArg B hb31)))) (rv_move e2) rfl hJ) ?_
       exact all_nil
      ·intro _nm ρ σ55 hJ hoff hrel
       have e0 := look_off (N := 68) (hoff 0 rfl) rfl
       have e1 := look_off (N := 68) (hoff 1 rfl) rfl
       have e2 := look_off (N := 68) (hoff 2 rfl) rfl
       have e7 := look_off (N := 68) (hoff 7 rfl) rfl
       have e8 := look_off (N := 68) (hoff 8 rfl) rfl
       have e9 := look_off (N := 68) (hoff 9 rfl) rfl
       have e30 := hrel 2 rfl 30 rfl
       have e37 := hrel 9 rfl 37 rfl
       have e42 := hrel 14 rfl 42 rfl
       have e43 := hrel 15 rfl 43 rfl
       have e44 := hrel 16 rfl 44 rfl
       obtain ⟨H, -⟩ := (show Hp S0 σ0 σ55 [Ch.ro 0 (Sl a52 x45.2.1 c53) x45.2.1, Ch.ro 0 (Sl a39 x32.2.1 c40) x32.2.1, Ch.ro 0 (Sl Am Ak Ao) Ak, Ch.ro 0 (Sl Az Ay Ba) Ay, Ch.own n0 0 (Sl a23 s27.1 c24) s27.1] ∧ Md (cov []) σ28 σ55 from hJ)
       clear hJ Hs
       rw [fr_lookL (L := [(0, (Sl Am Ak Ao)), (1, (I Ax)), (2, (Sl Az Ay Ba)), (7, (Sl a23 s27.1 c24)), (8, (I s4.2)), (9, (I s27.2)), (30, (B (decide (0 < s27.2)))), (37, (.agg #[(I r42.1), (I r42.2)])), (42, (.agg #[(I x45.1), (Sl a52 x45.2.1 c53), (I x45.2.2)])), (43, (I Ax)), (44, (Sl Az Ay Ba))]) ⟨e0, e1, e2, e7, e8, e9, e30, e37, e42, e43, e44, trivial⟩]
       clear hoff hrel e0 e1 e2 e7 e8 e9 e30 e37 e42 e43 e44
       revert h; refine br fun r56 hx57 h => ?_
       have hc58 := c_spec_hit (Au := a52) (Av := c53) (Az := Az) (Ba := Ba) hx57
       refine st_call (cx_call hc58 (ent_f hc58.fn rfl) hn0 (H.sel' [0, 3, 0, 1, 2, 3, 4] rfl rfl : Hp S0 σ0 _ ([_, _] ++ _))) (wanted_yes rfl (by exact (congrArg some hb31))) ?_
       rintro _ σ59 ⟨_, ⟨rfl, rfl⟩, H, -⟩
       replace H : Hp _ _ _ [_, _, _, _, _] := H
       revert h; refine br fun r60 hx61 h => ?_
       have hc62 := c_spec_nearer hx61
       refine st_call (cx_call hc62 (ent_f hc62.fn rfl) hn0 (H.sel' [0, 1, 2, 3, 4] rfl rfl : Hp S0 σ0 _ ([] ++ _))) (wanted_yes rfl (by exact (congrArg some hb31))) ?_
       rintro _ σ63 ⟨_, ⟨rfl, rfl⟩, H, -⟩
       replace H : Hp _ _ _ [_, _, _, _, _] := H
       refine st (v := (B r60)) (rv_pick_t (congrArg B hb31) rfl) (w_end ?_)
       obtain rfl := sj h
       exact ⟨rfl, _, σ63, fr_join ⟨rfl, rfl, rfl, rfl, rfl, rfl, rfl, trivial⟩, rfl, H.sel' [2, 3, 4] rfl rfl⟩
     ·replace h := bif_f hb31 h
      have Hs := H
      refine rg2 (σ := σ28) (Nm := Unit) 17 [] [[]] [[(0, 0)], [(0, 0)], [(0, 0)], [(0, 0)], [(0, 0)], [(0, 0)], [(0, 0)], [(0, 0)], [(0, 0)], [(0, 0)], [(0, 0)], [(0, 0)], [(0, 0)], [(0, 0)], [(0, 0)], [(0, 0)], [(0, 0)]] 0 [fun _ => fun σm => Hp S0 σ0 σm [Ch.ro 0 (Sl Am Ak Ao) Ak, Ch.ro 0 (Sl Az Ay Ba) Ay, Ch.own n0 0 (Sl a23 s27.1 c24) s27.1] ∧ Md (cov []) σ28 σm] [fun _ => (I s27.2), fun _ => (B (decide (0 < s27.2))), fun _ => (B (decide (0 < s27.2))), fun _ => undef, fun _ => undef, fun _ => undef, fun _ => undef, fun _ => undef, fun _ => undef, fun _ => undef, fun _ => undef, fun _ => undef, fun _ => undef, fun _ => undef, fun _ => undef, fun _ => undef, fun _ => undef] () (by kernel_rfl) (by kernel_rfl) ?_ ?_ ?_
      ·intro σm m0
       exact ⟨H.grow (m0.mono fun _ h => h.elim), m0⟩
      ·refine ac rfl (by
         intro k _nm ρ σm hJ hoff hdep
         have e9 := look_off (N := 68) (hoff 9 rfl) rfl
         exact dp_v (v := (I s27.2)) wn (rv_move e9) rfl hJ) ?_
       refine ac rfl (by
         intro k _nm ρ σm hJ hoff hdep
         have e28 := hdep 0 rfl rfl 28 rfl
         exact dp_v (v := (B (decide (0 < s27.2)))) wn (rv_gtr (a := s27.2) (b := 0) e28 rfl) rfl hJ) ?_
       refine ac rfl (by
         intro k _nm ρ σm hJ hoff hdep
         have e29 := hdep 1 rfl rfl 29 rfl
         exact dp_v (v := (B (decide (0 < s27.2)))) wn (rv_move e29) rfl hJ) ?_
       refine ac rfl (by
         intro k _nm ρ σm hJ hoff hdep
         have e30 := hdep 2 rfl rfl 30 rfl
         exact dp_skip (wanted_no rfl (yv_of rfl (e30.trans (congrArg B hb31)))) rfl hJ) ?_
       refine ac rfl (by
         intro k _nm ρ σm hJ hoff hdep
         have e30 := hdep 2 rfl rfl 30 rfl
         exact dp_skip (wanted_no rfl (yv_of rfl (e30.trans (congrArg B hb31)))) rfl hJ) ?_
       refine ac rfl (by
         intro k _nm ρ σm hJ hoff hdep
         have e30 := hdep 2 rfl rfl 30 rfl
         exact dp_skip (wanted_no rfl (yv_of rfl (e30.trans (congrArg B hb31)))) rfl hJ) ?_
       refine ac rfl (by
         intro k _nm ρ σm hJ hoff hdep
         have e30 := hdep 2 rfl rfl 30 rfl
         exact dp_skip (wanted_no rfl (yv_of rfl (e30.trans (congrArg B hb31)))) rfl hJ) ?_
       refine ac rfl (by
         intro k _nm ρ σm hJ hoff hdep
         have e30 := hdep 2 rfl rfl 30 rfl
         exact dp_skip (wanted_no rfl (yv_of rfl (e30.trans (congrArg B hb31)))) rfl hJ) ?_
       refine ac rfl (by
         intro k _nm ρ σm hJ hoff hdep
         have e30 := hdep 2 rfl rfl 30 rfl
         exact dp_skip (wanted_no rfl (yv_of rfl (e30.trans (congrArg B hb31)))) rfl hJ) ?_
       refine ac rfl (by
         intro k _nm ρ σm hJ hoff hdep
         have e30 := hdep 2 rfl rfl 30 rfl
         exact dp_skip (wanted_no rfl (yv_of rfl (e30.trans (congrArg B hb31)))) rfl hJ) ?_
       refine ac rfl (by
         intro k _nm ρ σm hJ hoff hdep
         have e30 := hdep 2 rfl rfl 30 rfl
         exact dp_skip (wanted_no rfl (yv_of rfl (e30.trans (congrArg B hb31)))) rfl hJ) ?_
       refine ac rfl (by
         intro k _nm ρ σm hJ hoff hdep
         have e30 := hdep 2 rfl rfl 30 rfl
         exact dp_skip (wanted_no rfl (yv_of rfl (e30.trans (congrArg B hb31)))) rfl hJ) ?_
       refine ac rfl (by
         intro k _nm ρ σm hJ hoff hdep
         have e30 := hdep 2 rfl rfl 30 rfl
         exact dp_skip (wanted_no rfl (yv_of rfl (e30.trans (congrArg B hb31)))) rfl hJ) ?_
       refine ac rfl (by
         intro k _nm ρ σm hJ hoff hdep
         have e30 := hdep 2 rfl rfl 30 rfl
         exact dp_skip (wanted_no rfl (yv_of rfl (e30.trans (congrArg B hb31)))) rfl hJ) ?_
       refine ac rfl (by
         intro k _nm ρ σm hJ hoff hdep
         have e30 := hdep 2 rfl rfl 30 rfl
         exact dp_skip (wanted_no rfl (yv_of rfl (e30.trans (congrArg B hb31)))) rfl hJ) ?_
       refine ac rfl (by
         intro k _nm ρ σm hJ hoff hdep
         have e30 := hdep 2 rfl rfl 30 rfl
         exact dp_skip (wanted_no rfl (yv_of rfl (e30.trans (congrArg B hb31)))) rfl hJ) ?_
       refine ac rfl (by
         intro k _nm ρ σm hJ hoff hdep
         have e30 := hdep 2 rfl rfl 30 rfl
         exact dp_skip (wanted_no rfl (yv_of rfl (e30.trans (congrArg B hb31)))) rfl hJ) ?_
       exact all_nil
      ·intro _nm ρ σ64 hJ hoff hrel
       have e0 := look_off (N := 68) (hoff 0 rfl) rfl
       have e1 := look_off (N := 68) (hoff 1 rfl) rfl
       have e2 := look_off (N := 68) (hoff 2 rfl) rfl
       have e7 := look_off (N := 68) (hoff 7 rfl) rfl
       have e8 := look_off (N := 68) (hoff 8 rfl) rfl
       have e9 := look_off (N := 68) (hoff 9 rfl) rfl
       have e30 := hrel 2 rfl 30 rfl
       have e37 := hrel 9 rfl 37 rfl
       have e42 := hrel 14 rfl 42 rfl
       have e43 := hrel 15 rfl 43 rfl
       have e44 := hrel 16 rfl 44 rfl
       obtain ⟨H, -⟩ := (show Hp S0 σ0 σ64 [Ch.ro 0 (Sl Am Ak Ao) Ak, Ch.ro 0 (Sl Az Ay Ba) Ay, Ch.own n0 0 (Sl a23 s27.1 c24) s27.1] ∧ Md (cov []) σ28 σ64 from hJ)
       clear hJ Hs
       rw [fr_lookL (L := [(0, (Sl Am Ak Ao)), (1, (I Ax)), (2, (Sl Az Ay Ba)), (7, (Sl a23 s27.1 c24)), (8, (I s4.2)), (9, (I s27.2)), (30, (B (decide (0 < s27.2)))), (37, undef), (42, undef), (43, undef), (44, undef)]) ⟨e0, e1, e2, e7, e8, e9, e30, e37, e42, e43, e44, trivial⟩]
       clear hoff hrel e0 e1 e2 e7 e8 e9 e30 e37 e42 e43 e44
       refine st_skip (congrArg some hb31) (st_skip (congrArg some hb31) (st (v := (B false)) (rv_pick_f (congrArg B hb31) rfl) (w_end ?_)))
       obtain rfl := sj h
       exact ⟨rfl, _, σ64, fr_join ⟨rfl, rfl, rfl, rfl, rfl, rfl, rfl, trivial⟩, rfl, H.sel' [0, 1, 2] rfl rfl⟩
    ·clear hj
     have h := h'
     clear h' H
     rintro e a w ⟨rfl, ρ, σ65, rfl, rfl, H⟩
     refine q_then ?_
     refine cd_cond o30 rfl (fun hb66 => ?_) (fun hb66 => ?_)
     ·replace h := bif_t hb66 h
      refine c_skip (q_then (c_seq (c_blk (c_seq (rg (sm (Sl a23 s27.1 c24) rfl (sm (I s27.2) rfl ?_)))))))
      revert h; refine br fun x67 hx68 h => ?_
      obtain ⟨b70, o71, hi69, -⟩ := (H.own 2 rfl).ix hx68
      refine st (v := (pt b70 o71)) (rv_ix Tryz.underlying27 ti54 rfl rfl hi69) ?_
      obtain ⟨_, ⟨_, _, rfl, rfl, ⟨_, _, rfl, ⟨_, rfl, hR76⟩, rfl⟩⟩, hl72, hc73⟩ := ((H.own 2 rfl).at hx68 hi69).cells
      obtain ⟨a74, c75, rfl⟩ := hR76.isSl
      replace H := H.add (d := Ch.ro 0 (Sl a74 x67.2.1 c75) x67.2.1) hR76 (fun _ h => h)
      clear hR76
      refine st (v := (.agg #[(I x67.1), (Sl a74 x67.2.1 c75), (I x67.2.2)])) (rv_load Tryz.underlying54 rfl ti54 rfl hl72 hc73) (st_ex (ex_alloc (cs := [(I 0), (.slice none 0 0), (I 0)]) H hn0 ti54 rfl) wn ?_)
      rintro _ σ78 ⟨b77, rfl, H, -⟩
      refine st_exS (ex_store_box (k := 0) (cs := [(I 0), (.slice none 0 0), (I 0)]) (vs := [(I x67.1), (Sl a74 x67.2.1 c75), (I x67.2.2)]) (cs' := [(I x67.1), (Sl a74 x67.2.1 c75), (I x67.2.2)]) H (i := 0) rfl ti54 rfl rfl rfl rfl rfl (Nat.le_of_ble_eq_true rfl) (by simp [plain]) rfl) wn ?_
      rintro σ79 ⟨H, -⟩
      refine w_end (q_then (c_seq (rg (sm (Sl a23 s27.1 c24) rfl (sm (I s27.2) rfl (sm (Sl a23 s27.1 c24) rfl (sm (I s27.2) rfl (st (v := (I (w64 (s27.2 - 1)))) (rv_sub (a := s27.2) (b := 1) rfl rfl) ?_))))))))
      revert h; refine br fun x80 hx81 h => ?_
      obtain ⟨b83, o84, hi82, -⟩ := (H.own 4 rfl).ix hx81
      refine st (v := (pt b83 o84)) (rv_ix Tryz.underlying27 ti54 rfl rfl hi82) ?_
      obtain ⟨_, ⟨_, _, rfl, rfl, ⟨_, _, rfl, ⟨_, rfl, hR89⟩, rfl⟩⟩, hl85, hc86⟩ := ((H.own 4 rfl).at hx81 hi82).cells
      obtain ⟨a87, c88, rfl⟩ := hR89.isSl
      replace H := H.add (d := Ch.ro 0 (Sl a87 x80.2.1 c88) x80.2.1) hR89 (fun _ h => h)
      clear hR89
      refine st (v := (.agg #[(I x80.1), (Sl a87 x80.2.1 c88), (I x80.2.2)])) (rv_load Tryz.underlying54 rfl ti54 rfl hl85 hc86) ?_
      revert h; refine br fun x90 hx91 h => ?_
      obtain ⟨b93, o94, hi92, -⟩ := (H.own 5 rfl).ix hx91
      refine st (v := (pt b93 o94)) (rv_ix Tryz.underlying27 ti54 rfl rfl hi92) ?_
      refine st_exS (ex_store_own (e' := (x80.1, x80.2.1, x80.2.2)) (vs := [(I x80.1), (Sl a87 x80.2.1 c88), (I x80.2.2)]) (k := 0) H (i := 5) rfl ti54 hx91 hi92 rfl rfl rfl rfl rfl (Nat.le_of_ble_eq_true rfl) (by simp [plain]) (by rintro _ ⟨_, _, rfl, rfl, ⟨_, _, rfl, ⟨_, rfl, hR97⟩, rfl⟩⟩; exact ⟨[(I x80.1)], [(Sl a87 x80.2.1 c88), (I x80.2.2)], rfl, rfl, ⟨[(Sl a87 x80.2.1 c88)], [(I x80.2.2)], rfl, ⟨_, rfl, (H.ro 0 rfl)⟩, rfl⟩⟩)) wn ?_
      rintro σ98 ⟨H, -⟩
      have hsl : (Sl a23 s27.1 c24) = (Sl a23 (s27.1.set s27.2.toNat (x80.1, x80.2.1, x80.2.2)) c24) := sl_len List.length_set.symm
      rw [hsl]; rw [hsl] at H; clear hsl
      refine w_end (q_then (rg (sm (Sl a23 (s27.1.set s27.2.toNat (x80.1, x80.2.1, x80.2.2)) c24) rfl (sm (I s27.2) rfl (st (v := (I (w64 (s27.2 - 1)))) (rv_sub (a := s27.2) (b := 1) rfl rfl) ?_)))))
      have hc99 := H.cells 2 rfl
      refine st (v := (.agg #[(I x67.1), (Sl a74 x67.2.1 c75), (I x67.2.2)])) (rv_load (cs := [(I x67.1), (Sl a74 x67.2.1 c75), (I x67.2.2)]) Tryz.underlying54 rfl ti54 rfl rfl hc99) ?_
      revert h; refine br fun x100 hx101 h => ?_
      obtain ⟨b103, o104, hi102, -⟩ := (H.own 0 rfl).ix hx101
      refine st (v := (pt b103 o104)) (rv_ix Tryz.underlying27 ti54 rfl rfl hi102) ?_
      refine st_exS (ex_store_own (e' := (x67.1, x67.2.1, x67.2.2)) (vs := [(I x67.1), (Sl a74 x67.2.1 c75), (I x67.2.2)]) (k := 0) H (i := 0) rfl ti54 hx101 hi102 rfl rfl rfl rfl rfl (Nat.le_of_ble_eq_true rfl) (by simp [plain]) (by rintro _ ⟨_, _, rfl, rfl, ⟨_, _, rfl, ⟨_, rfl, hR107⟩, rfl⟩⟩; exact ⟨[(I x67.1)], [(Sl a74 x67.2.1 c75), (I x67.2.2)], rfl, rfl, ⟨[(Sl a74 x67.2.1 c75)], [(I x67.2.2)], rfl, ⟨_, rfl, (H.ro 3 rfl)⟩, rfl⟩⟩)) wn ?_
      rintro σ108 ⟨H, -⟩
      have hsl : (Sl a23 (s27.1.set s27.2.toNat (x80.1, x80.2.1, x80.2.2)) c24) = (Sl a23 ((s27.1.set s27.2.toNat (x80.1, x80.2.1, x80.2.2)).set (w64 (s27.2 - 1)).toNat (x67.1, x67.2.1, x67.2.2)) c24) := sl_len List.length_set.symm
      rw [hsl]; rw [hsl] at H; clear hsl
      refine w_end (q_blk (q_then (rg (sm (I s27.2) rfl (st (v := (I (w64 (s27.2 - 1)))) (rv_sub (a := s27.2) (b := 1) rfl rfl) (sa (I (w64 (s27.2 - 1))) rfl (w_end (q_then ?_))))))))
      obtain rfl := sj h
      exact ⟨_, rfl, _, σ108, fr_join ⟨rfl, rfl, rfl, rfl, rfl, rfl, trivial⟩, rfl, H.sel' [4, 5, 0] rfl rfl, (List.length_set.trans (List.length_set.trans hn29))⟩
     ·replace h := bif_f hb66 h
      refine c_exit (q_then_x (q_then_x (q_blk_hit ?_)))
      obtain rfl := sj h
      obtain rfl := hres _ rfl
      exact ⟨rfl, _, σ65, fr_join ⟨rfl, rfl, rfl, rfl, rfl, trivial⟩, rfl, H.sel' [0, 1, 2] rfl rfl, hn29⟩
   ·clear hj
    have h := h'
    clear h' H
    rintro e a w ⟨rfl, ρ, σ109, rfl, rfl, H, hn110⟩
    refine q_blk (q_then (rg (sm (I s4.2) rfl (st (v := (I (w64 (s4.2 + 1)))) (rv_add (a := s4.2) (b := 1) rfl rfl) (sa (I (w64 (s4.2 + 1))) rfl (w_end (q_then ?_)))))))
    obtain rfl := sj h
    exact ⟨_, rfl, _, σ109, a23, c24, fr_join ⟨rfl, rfl, rfl, rfl, rfl, trivial⟩, rfl, H.sel' [0, 1, 2] rfl rfl⟩
  ·replace h := bif_f hb8 h
   refine c_exit (q_then_x (q_then_x (q_blk_hit ?_)))
   obtain rfl := sj h
   obtain rfl := hres _ rfl
   exact ⟨rfl, _, σ5, a6, c7, fr_join ⟨rfl, trivial⟩, rfl, H.sel' [2] rfl rfl⟩
 ·clear hj
  have h := h'
  clear h' H
  rintro e a w ⟨rfl, ρ, σ111, a112, c113, rfl, rfl, H⟩
  refine q_then (c_seq (rg (sm (Sl a112 o3 c113) rfl (sa (Sl a112 o3 c113) rfl (w_end (q_then (c_ret ?_)))))))
  obtain rfl := sj h
  exact fin_ret (v := (Sl a112 o3 c113)) (results_ok Tryz.results72 (res_tmp (v := (Sl a112 o3 c113)) rfl res_nil) rfl) ⟨a112, c113, rfl, rfl⟩ (H.sel' [0] rfl rfl)

theorem c_spec_grow : ∀ (fuel : Nat) {Bj : List (Int × Int × Int × Int)} {Bk : List (Int × (List Int) × Int)} {Bl : Int} {Bm : Option Addr} {Bn : Nat} {Bo : Option Addr} {Bp : Nat} {r : (List (Int × Int × Int × Int))} (h : M.spec_grow fuel Bj Bk Bl = some r),
    Cal2 Tryz.prog 48 [(Sl Bm Bj Bn), (Sl Bo Bk Bp), (I Bl)] [Ch.own 0 0 (Sl Bm Bj Bn) Bj, Ch.ro 0 (Sl Bo Bk Bp) Bk] (fun n0 v L => ∃ (az1 : Option Addr), ∃ (cz2 : Nat), v = (Sl az1 r cz2) ∧ L = [Ch.own 0 n0 (Sl az1 r cz2) r]) := by
 intro fuel
 induction fuel with
 | zero => intro _ _ _ _ _ _ _ r h; cases h
 | succ fuel ih =>
 ·intro Bj Bk Bl Bm Bn Bo Bp r h
  replace h : M.spec_grow_F (M.spec_grow fuel) Bj Bk Bl = some r := h
  refine cal2 (n := 83) Tryz.func48 rfl rfl rfl rfl ?_
  intro S0 σ0 n0 hn0 H
  unfold M.spec_grow_F at h
  refine c_seq (rg (sa (.slice none 0 0) rfl (w_end (q_then (c_seq (c_seq (rg (sm (Sl Bo Bk Bp) rfl (st (v := (I (Bk.length : Int))) (rv_len Tryz.underlying27 rfl) (st (v := (B ((Bk.length : Int) == 0))) (rv_eql (a := (Bk.length : Int)) (b := 0) rfl rfl) (w_end ?_)))))))))))
  refine q_then ?_
  refine cd_cond ((Bk.length : Int) == 0) rfl (fun hb1 => ?_) (fun hb1 => ?_)
  ·replace h := bif_t hb1 h
   refine c_seq (rg (sm (Sl Bm Bj Bn) rfl (sa (Sl Bm Bj Bn) rfl (w_end (q_then (c_ret (q_then_r ?_)))))))
   replace H := H.ownSc 0 0 n0 rfl (Nat.le_refl _)
   obtain rfl := sj h
   exact fin_ret (v := (Sl Bm Bj Bn)) (results_ok Tryz.results48 (res_tmp (v := (Sl Bm Bj Bn)) rfl res_nil) rfl) ⟨Bm, Bn, rfl, rfl⟩ (H.sel' [0] rfl rfl)
  ·replace h := bif_f hb1 h
   refine c_skip (q_then (c_seq (rg (sm (Sl Bo Bk Bp) rfl ?_))))
   revert h; refine br fun x2 hx3 h => ?_
   obtain ⟨b5, o6, hi4, -⟩ := (H.ro 1 rfl).ix hx3
   refine st (v := (pt b5 o6)) (rv_ix Tryz.underlying27 ti54 rfl rfl hi4) ?_
   obtain ⟨_, ⟨_, _, rfl, rfl, ⟨_, _, rfl, ⟨_, rfl, hR11⟩, rfl⟩⟩, hl7, hc8⟩ := ((H.ro 1 rfl).at hx3 hi4).cells
   obtain ⟨a9, c10, rfl⟩ := hR11.isSl
   replace H := H.add (d := Ch.ro 0 (Sl a9 x2.2.1 c10) x2.2.1) hR11 (fun _ h => h)
   clear hR11
   refine st (v := (.agg #[(I x2.1), (Sl a9 x2.2.1 c10), (I x2.2.2)])) (rv_load Tryz.underlying54 rfl ti54 rfl hl7 hc8) (st_ex (ex_alloc (cs := [(I 0), (.slice none 0 0), (I 0)]) H hn0 ti54 rfl) wn ?_)
   rintro _ σ13 ⟨b12, rfl, H, -⟩
   refine st_exS (ex_store_box (k := 0) (cs := [(I 0), (.slice none 0 0), (I 0)]) (vs := [(I x2.1), (Sl a9 x2.2.1 c10), (I x2.2.2)]) (cs' := [(I x2.1), (Sl a9 x2.2.1 c10), (I x2.2.2)]) H (i := 0) rfl ti54 rfl rfl rfl rfl rfl (Nat.le_of_ble_eq_true rfl) (by simp [plain]) rfl) wn ?_
   rintro σ14 ⟨H, -⟩
   refine w_end (q_then (c_seq ?_))
   refine rgP (σ := σ14) 5 (by kernel_rfl) (by kernel_rfl) (by kernel_rfl) ?_
   refine sq (v := (Sl Bo Bk Bp)) (rv_move rfl) ?_
   revert h; refine br fun xs15 hx16 h => ?_
   obtain ⟨a17, c18, hs19, hR20⟩ := (H.ro 3 rfl).slice hx16
   replace H := H.add (d := Ch.ro 0 (Sl a17 xs15 c18) xs15) hR20 (fun _ h => h)
   clear hR20
   refine sq (v := (Sl a17 xs15 c18)) (rv_slice_l Tryz.underlying27 ti54 hs19 rfl rfl) (sq (v := (I Bl)) (rv_move rfl) (sq (v := (pt b12 1)) (rv_fieldAddr (off := 1) (ft := 23) Tryz.underlying54 rfl ti23 rfl rfl) ?_))
   have hc21 := H.cell (u := (Sl a9 x2.2.1 c10)) (o' := 1) 1 1 rfl rfl rfl
   refine sq (v := (Sl a9 x2.2.1 c10)) (rv_load1 Tryz.underlying23 rfl rfl hc21) (sq_end ?_)
   intro σ22 hm23
   replace H := H.grow (hm23.mono fun _ h => h); clear hm23
   revert h; refine br fun r24 hx25 h => ?_
   have hc26 := c_spec_byDist (Am := a17) (Ao := c18) (Az := a9) (Ba := c10) hx25
   refine st_call (cx_call hc26 (ent_f hc26.fn rfl) hn0 (H.sel' [0, 2, 0, 1, 2, 3, 4] rfl rfl : Hp S0 σ0 _ ([_, _] ++ _))) wn ?_
   rintro _ σ29 ⟨_, ⟨a27, c28, rfl, rfl⟩, H, -⟩
   replace H : Hp _ _ _ [_, _, _, _, _, _] := H
   refine sa (Sl a27 r24 c28) rfl (w_end (q_then (c_seq (rg (sm (Sl a27 r24 c28) rfl (st (v := (I (r24.length : Int))) (rv_len Tryz.underlying27 rfl) (st (v := (I (w64 ((r24.length : Int) + 1)))) (rv_add (a := (r24.length : Int)) (b := 1) rfl rfl) ?_)))))))
   refine st (v := (I (w64 ((w64 ((r24.length : Int) + 1)).tdiv 2)))) (rv_quo (a := (w64 ((r24.length : Int) + 1))) (b := 2) rfl rfl (by decide)) ?_
   refine sa (I (w64 ((w64 ((r24.length : Int) + 1)).tdiv 2))) rfl (w_end (q_then (c_seq (rg (st (v := (pt b12 0)) (rv_fieldAddr (off := 0) (ft := 3) Tryz.underlying54 rfl ti3 rfl rfl) ?_)))))
   have hc30 := H.cell (u := (I x2.1)) (o' := 0) 2 0 rfl rfl rfl
   refine st (v := (I x2.1)) (rv_load1 Tryz.underlying3 rfl rfl hc30) ?_
   refine st (v := (.agg #[(I x2.1), (I 0), (I (-1)), (I (-1))])) (rv_build (ps := [(0, (I x2.1)), (2, (I (-1))), (3, (I (-1)))]) Tryz.underlying105 ti105 (bp105 Tryz.underlying105) rfl (by kernel_rfl)) ?_
   refine st_ex (ex_alloc (cs := [(I 0), (I 0), (I 0), (I 0)]) H hn0 ti105 rfl) wn ?_
   rintro _ σ32 ⟨b31, rfl, H, -⟩
   refine st_exS (ex_store_box (k := 0) (cs := [(I 0), (I 0), (I 0), (I 0)]) (vs := [(I x2.1), (I 0), (I (-1)), (I (-1))]) (cs' := [(I x2.1), (I 0), (I (-1)), (I (-1))]) H (i := 0) rfl ti105 rfl rfl rfl rfl rfl (Nat.le_of_ble_eq_true rfl) (by simp [plain]) rfl) wn ?_
   rintro σ33 ⟨H, -⟩
   refine w_end (q_then (c_seq (rg (sm (Sl Bm Bj Bn) rfl (st (v := (I (Bj.length : Int))) (rv_len Tryz.underlying49 rfl) (sa (I (Bj.length : Int)) rfl (w_end (q_then (c_seq (rg (sm (Sl Bm Bj Bn) rfl ?_)))))))))))
   have hc34 := H.cells 0 rfl
   refine st (v := (.agg #[(I x2.1), (I 0), (I (-1)), (I (-1))])) (rv_load (cs := [(I x2.1), (I 0), (I (-1)), (I (-1))]) Tryz.underlying105 rfl ti105 rfl rfl hc34) ?_
   refine st_ex (ex_buildSlice (el := n0) (xs := ([(x2.1, 0, -1, -1)] : List (Int × Int × Int × Int))) (ps := [(0, (.agg #[(I x2.1), (I 0), (I (-1)), (I (-1))]))]) (cs := [(I x2.1), (I 0), (I (-1)), (I (-1))]) H hn0 Tryz.underlying49 ti105 rfl rfl (by kernel_rfl) (.cons (c := [(I x2.1), (I 0), (I (-1)), (I (-1))]) ⟨[(I x2.1)], [(I 0), (I (-1)), (I (-1))], rfl, rfl, ⟨[(I 0)], [(I (-1)), (I (-1))], rfl, rfl, ⟨[(I (-1))], [(I (-1))], rfl, rfl, rfl⟩⟩⟩ (.nil)) rfl) wn ?_
   rintro _ σ36 ⟨b35, rfl, H, -⟩
   replace H : Hp S0 σ0 σ36 [Ch.own n0 n0 (Sl (some ⟨b35, 0, none⟩) ([(x2.1, 0, -1, -1)] : List (Int × Int × Int × Int)) 1) ([(x2.1, 0, -1, -1)] : List (Int × Int × Int × Int)), Ch.own n0 0 (Sl a27 r24 c28) r24, Ch.bx n0 b12 0 [(I x2.1), (Sl a9 x2.2.1 c10), (I x2.2.2)] [] [], Ch.ro 0 (Sl a9 x2.2.1 c10) x2.2.1, Ch.own 0 0 (Sl Bm Bj Bn) Bj] := H.sel' [0, 2, 4, 5, 6] rfl rfl
   revert h; refine br fun xs37 hx38 h => ?_
   refine st_ex (ex_append H (i := 4) rfl Tryz.underlying49 Tryz.underlying49 ti105 rfl rfl (by decide) ((H.own 0 rfl).rd.sc) hx38 (Nat.zero_le _) rfl rfl) wn ?_
   rintro _ σ41 ⟨a39, c40, rfl, H, -⟩
   refine sa (Sl a39 xs37 c40) rfl (w_end (q_then (c_seq (c_seq (rg (sm (I (w64 ((w64 ((r24.length : Int) + 1)).tdiv 2))) rfl (st (v := (B (decide (0 < (w64 ((w64 ((r24.length : Int) + 1)).tdiv 2)))))) (rv_gtr (a := (w64 ((w64 ((r24.length : Int) + 1)).tdiv 2))) (b := 0) rfl rfl) (w_end (q_then ?_)))))))))
   obtain ⟨o42, hj, h'⟩ := bind_some h
   clear h
   refine c_cut (fun e a w => e = .normal ∧ ∃ (ρ : Nat → Value) (σ : St) (aj1 : Option Addr) (cj2 : Nat), a = fr 83 (updL ρ [(0, (Sl aj1 o42 cj2)), (2, (I Bl)), (8, (Sl a27 r24 c28)), (9, (I (w64 ((w64 ((r24.length : Int) + 1)).tdiv 2)))), (11, (I (Bj.length : Int)))]) ∧ w = σ.w ∧ Hp S0 σ0 σ [Ch.own 0 0 (Sl aj1 o42 cj2) o42, Ch.ro 0 (Sl a27 r24 c28) r24]) ?_ ?_
   ·clear h'
    rename _ = some o42 => h
    refine cd_cond (decide (0 < (w64 ((w64 ((r24.length : Int) + 1)).tdiv 2)))) rfl (fun hb43 => ?_) (fun hb43 => ?_)
    ·replace h := bif_t hb43 h
     refine c_seq ?_
     revert h; refine br fun x44 hx45 h => ?_
     obtain ⟨b47, o48, hi46, -⟩ := (H.own 2 rfl).ix hx45
     obtain ⟨v52, hc53, hR51⟩ := ((H.own 2 rfl).at hx45 hi46).snd.fst.slice
     obtain ⟨a49, c50, rfl⟩ := hR51.isSl
     replace H := H.add (d := Ch.ro 0 (Sl a49 x44.2.1 c50) x44.2.1) hR51 (fun _ h => h)
     clear hR51
     have hc54 := H.cell (u := (Sl a9 x2.2.1 c10)) (o' := 1) 4 1 rfl rfl rfl
     revert h; refine br fun r55 hx56 h => ?_
     have hc57 := c_spec_dist (Be := a49) (Bf := c50) (Bg := a9) (Bh := c10) hx56
     have Hs := H
     refine rg2 (σ := σ41) (Nm := Unit) 12 [11] [[false], [true]] [[(0, 0), (1, 1)], [(0, 0), (1, 1)], [(0, 0)], [(0, 0)], [(0, 0)], [(0, 0)], [(0, 0)], [(0, 0)], [(0, 0)], [(0, 0)], [(0, 0)], [(0, 1)]] 1 [fun _ => fun σm => Hp S0 σ0 σm [Ch.ro 0 (Sl a49 x44.2.1 c50) x44.2.1, Ch.own 0 0 (Sl a39 xs37 c40) xs37, Ch.own n0 n0 (Sl (some ⟨b35, 0, none⟩) ([(x2.1, 0, -1, -1)] : List (Int × Int × Int × Int)) 1) ([(x2.1, 0, -1, -1)] : List (Int × Int × Int × Int)), Ch.own n0 0 (Sl a27 r24 c28) r24, Ch.bx n0 b12 0 [(I x2.1), (Sl a9 x2.2.1 c10), (I x2.2.2)] [] [], Ch.ro 0 (Sl a9 x2.2.1 c10) x2.2.1] ∧ Md (cov []) σ41 σm, fun _ => fun σm => Hp S0 σ0 σm [Ch.ro 0 (Sl a49 x44.2.1 c50) x44.2.1, Ch.own 0 0 (Sl a39 xs37 c40) xs37, Ch.own n0 n0 (Sl (some ⟨b35, 0, none⟩) ([(x2.1, 0, -1, -1)] : List (Int × Int × Int × Int)) 1) ([(x2.1, 0, -1, -1)] : List (Int × Int × Int × Int)), Ch.own n0 0 (Sl a27 r24 c28) r24, Ch.bx n0 b12 0 [(I x2.1), (Sl a9 x2.2.1 c10), (I x2.2.2)] [] [], Ch.ro 0 (Sl a9 x2.2.1 c10) x2.2.1] ∧ Md (cov []) σ41 σm] [fun _ => (Sl a39 xs37 c40), fun _ => (I (Bj.length : Int)), fun _ => (I Bl), fun _ => (Sl a27 r24 c28), fun _ => (I (w64 ((w64 ((r24.length : Int) + 1)).tdiv 2))), fun _ => (I (w64 ((w64 ((w64 ((r24.length : Int) + 1)).tdiv 2)) - 1))), fun _ => (pt b47 o48), fun _ => (pt b47 (o48 + 1)), fun _ => (Sl a49 x44.2.1 c50), fun _ => (pt b12 1), fun _ => (Sl a9 x2.2.1 c10), fun _ => (I r55)] () (by kernel_rfl) (by kernel_rfl) ?_ ?_ ?_
     ·intro σm m0
      exact ⟨H.grow (m0.mono fun _ h => h.elim), m0⟩
     ·refine ac rfl (by
        intro k _nm ρ σm hJ hoff hdep
        have e0 := look_off (N := 83) (hoff 0 rfl) rfl
        exact dp_v (v := (Sl a39 xs37 c40)) wn (rv_move e0) rfl hJ) ?_
      refine ac rfl (by
        intro k _nm ρ σm hJ hoff hdep
        have e11 := look_off (N := 83) (hoff 11 rfl) rfl
        exact dp_v (v := (I (Bj.length : Int))) wn (rv_move e11) rfl hJ) ?_
      refine ac rfl (by
        intro k _nm ρ σm hJ hoff hdep
        have e2 := look_off (N := 83) (hoff 2 rfl) rfl
        exact dp_v (v := (I Bl)) wn (rv_move e2) rfl hJ) ?_
      refine ac rfl (by
        intro k _nm ρ σm hJ hoff hdep
        have e8 := look_off (N := 83) (hoff 8 rfl) rfl
        exact dp_v (v := (Sl a27 r24 c28)) wn (rv_move e8) rfl hJ) ?_
      refine ac rfl (by
        intro k _nm ρ σm hJ hoff hdep
        have e9 := look_off (N := 83) (hoff 9 rfl) rfl
        exact dp_v (v := (I (w64 ((w64 ((r24.length : Int) + 1)).tdiv 2)))) wn (rv_move e9) rfl hJ) ?_
      refine ac rfl (by
        intro k _nm ρ σm hJ hoff hdep
        have e44 := hdep 4 rfl rfl 44 rfl
        exact dp_v (v := (I (w64 ((w64 ((w64 ((r24.length : Int) + 1)).tdiv 2)) - 1)))) wn (rv_sub (a := (w64 ((w64 ((r24.length : Int) + 1)).tdiv 2))) (b := 1) e44 rfl) rfl hJ) ?_
      refine ac rfl (by
        intro k _nm ρ σm hJ hoff hdep
        have e43 := hdep 3 rfl rfl 43 rfl
        have e45 := hdep 5 rfl rfl 45 rfl
        exact dp_v (v := (pt b47 o48)) wn (rv_ix Tryz.underlying27 ti54 e43 e45 hi46) rfl hJ) ?_
      refine ac rfl (by
        intro k _nm ρ σm hJ hoff hdep
        have e46 := hdep 6 rfl rfl 46 rfl
        exact dp_v (v := (pt b47 (o48 + 1))) wn (rv_fieldAddr (off := 1) (ft := 23) Tryz.underlying54 rfl ti23 rfl e46) rfl hJ) ?_
      refine all_cons (by
        refine ⟨?_, ?_⟩
        ·intro _nm ρ σm hJ hoff hdep
         have e47 := hdep 7 rfl rfl 47 rfl
         obtain ⟨H, m⟩ := id hJ
         replace hc53 := m.hcell hc53 nocov
         exact dp_v (v := (Sl a49 x44.2.1 c50)) wn (rv_load1 Tryz.underlying23 rfl e47 hc53) rfl hJ
        trivial) ?_
      refine ac rfl (by
        intro k _nm ρ σm hJ hoff hdep
        have e7 := look_off (N := 83) (hoff 7 rfl) rfl
        exact dp_v (v := (pt b12 1)) wn (rv_fieldAddr (off := 1) (ft := 23) Tryz.underlying54 rfl ti23 rfl e7) rfl hJ) ?_
      refine all_cons (by
        refine ⟨?_, ?_⟩
        ·intro _nm ρ σm hJ hoff hdep
         have e49 := hdep 9 rfl rfl 49 rfl
         obtain ⟨H, m⟩ := id hJ
         have hc54 := H.cell (u := (Sl a9 x2.2.1 c10)) (o' := 1) 4 1 rfl rfl rfl
         exact dp_v (v := (Sl a9 x2.2.1 c10)) wn (rv_load1 Tryz.underlying23 rfl e49 hc54) rfl hJ
        trivial) ?_
      refine all_cons (by
        refine ⟨?_, ?_⟩
        ·intro _nm ρ σm hJ hoff hdep
         have e42 : look 83 ρ 42 = (I Bl) := hdep 2 rfl rfl 42 rfl
         have e48 : look 83 ρ 48 = (Sl a49 x44.2.1 c50) := hdep 8 rfl rfl 48 rfl
         have e50 : look 83 ρ 50 = (Sl a9 x2.2.1 c10) := hdep 10 rfl rfl 50 rfl
         obtain ⟨H, m⟩ := id hJ
         refine dp_cx wn (cx_call hc57 (ent_f hc57.fn (by show [look 83 ρ 42, look 83 ρ 48, look 83 ρ 50] = _; rw [e42, e48, e50])) hn0 (H.sel' [0, 5, 0, 1, 2, 3, 4, 5] rfl rfl : Hp S0 σ0 _ ([_, _] ++ _))) ?_
         rintro _ σq ⟨_, ⟨rfl, rfl⟩, H2, m2⟩
         exact ⟨_, (), rfl, rfl, ⟨H2.sel' [0, 1, 2, 3, 4, 5] rfl rfl, m.comp0 (m2.mono (fun i h => by simp [cov, Ch.ro] at h))⟩, stab [0, 1, 2, 3, 4, 5, 6, 7, 8, 9, 10] (by kernel_rfl) ⟨rfl, rfl, rfl, rfl, rfl, rfl, rfl, rfl, rfl, rfl, rfl, trivial⟩⟩
        trivial) ?_
      exact all_nil
     ·intro _nm ρ σ58 hJ hoff hrel
      have e0 := look_off (N := 83) (hoff 0 rfl) rfl
      have e2 := look_off (N := 83) (hoff 2 rfl) rfl
      have e8 := look_off (N := 83) (hoff 8 rfl) rfl
      have e9 := look_off (N := 83) (hoff 9 rfl) rfl
      have e11 := look_off (N := 83) (hoff 11 rfl) rfl
      have e40 := hrel 0 rfl 40 rfl
      have e41 := hrel 1 rfl 41 rfl
      have e51 := hrel 11 rfl 51 rfl
      obtain ⟨H, -⟩ := (show Hp S0 σ0 σ58 [Ch.ro 0 (Sl a49 x44.2.1 c50) x44.2.1, Ch.own 0 0 (Sl a39 xs37 c40) xs37, Ch.own n0 n0 (Sl (some ⟨b35, 0, none⟩) ([(x2.1, 0, -1, -1)] : List (Int × Int × Int × Int)) 1) ([(x2.1, 0, -1, -1)] : List (Int × Int × Int × Int)), Ch.own n0 0 (Sl a27 r24 c28) r24, Ch.bx n0 b12 0 [(I x2.1), (Sl a9 x2.2.1 c10), (I x2.2.2)] [] [], Ch.ro 0 (Sl a9 x2.2.1 c10) x2.2.1] ∧ Md (cov []) σ41 σ58 from hJ)
      clear hJ Hs
      rw [fr_lookL (L := [(0, (Sl a39 xs37 c40)), (2, (I Bl)), (8, (Sl a27 r24 c28)), (9, (I (w64 ((w64 ((r24.length : Int) + 1)).tdiv 2)))), (11, (I (Bj.length : Int))), (40, (Sl a39 xs37 c40)), (41, (I (Bj.length : Int))), (51, (I r55))]) ⟨e0, e2, e8, e9, e11, e40, e41, e51, trivial⟩]
      clear hoff hrel e0 e2 e8 e9 e11 e40 e41 e51
      revert h; refine br fun x59 hx60 h => ?_
      obtain ⟨b62, o63, hi61, -⟩ := (H.own 1 rfl).ix hx60
      refine st (v := (pt b62 o63)) (rv_ix Tryz.underlying49 ti105 rfl rfl hi61) (st (v := (pt b62 (o63 + 1))) (rv_fieldAddr (off := 1) (ft := 3) Tryz.underlying105 rfl ti3 rfl rfl) ?_)
      refine st_exS (ex_store_own (e' := (x59.1, r55, x59.2.2.1, x59.2.2.2)) (vs := [(I r55)]) (k := 1) H (i := 1) rfl ti3 hx60 hi61 rfl rfl rfl rfl rfl (Nat.le_of_ble_eq_true rfl) (by simp [plain]) (by rintro _ ⟨_, _, rfl, rfl, ⟨_, _, rfl, rfl, ⟨_, _, rfl, rfl, rfl⟩⟩⟩; exact ⟨[(I x59.1)], [(I r55), (I x59.2.2.1), (I x59.2.2.2)], rfl, rfl, ⟨[(I r55)], [(I x59.2.2.1), (I x59.2.2.2)], rfl, rfl, ⟨[(I x59.2.2.1)], [(I x59.2.2.2)], rfl, rfl, rfl⟩⟩⟩)) wn ?_
      rintro σ64 ⟨H, -⟩
      have hsl : (Sl a39 xs37 c40) = (Sl a39 (xs37.set (Bj.length : Int).toNat (x59.1, r55, x59.2.2.1, x59.2.2.2)) c40) := sl_len List.length_set.symm
      rw [hsl]; rw [hsl] at H; clear hsl
      refine w_end (q_then (c_seq (rg (sm (Sl a39 (xs37.set (Bj.length : Int).toNat (x59.1, r55, x59.2.2.1, x59.2.2.2)) c40) rfl (sm (I (Bj.length : Int)) rfl (sm (Sl a39 (xs37.set (Bj.length : Int).toNat (x59.1, r55, x59.2.2.1, x59.2.2.2)) c40) rfl (st (v := (I ((xs37.set (Bj.length : Int).toNat (x59.1, r55, x59.2.2.1, x59.2.2.2)).length : Int))) (rv_len Tryz.underlying49 rfl) ?_)))))))
      revert h; refine br fun x65 hx66 h => ?_
      obtain ⟨b68, o69, hi67, -⟩ := (H.own 0 rfl).ix hx66
      refine st (v := (pt b68 o69)) (rv_ix Tryz.underlying49 ti105 rfl rfl hi67) (st (v := (pt b68 (o69 + 2))) (rv_fieldAddr (off := 2) (ft := 3) Tryz.underlying105 rfl ti3 rfl rfl) ?_)
      refine st_exS (ex_store_own (e' := (x65.1, x65.2.1, ((xs37.set (Bj.length : Int).toNat (x59.1, r55, x59.2.2.1, x59.2.2.2)).length : Int), x65.2.2.2)) (vs := [(I ((xs37.set (Bj.length : Int).toNat (x59.1, r55, x59.2.2.1, x59.2.2.2)).length : Int))]) (k := 2) H (i := 0) rfl ti3 hx66 hi67 rfl rfl rfl rfl rfl (Nat.le_of_ble_eq_true rfl) (by simp [plain]) (by rintro _ ⟨_, _, rfl, rfl, ⟨_, _, rfl, rfl, ⟨_, _, rfl, rfl, rfl⟩⟩⟩; exact ⟨[(I x65.1)], [(I x65.2.1), (I ((xs37.set (Bj.length : Int).toNat (x59.1, r55, x59.2.2.1, x59.2.2.2)).length : Int)), (I x65.2.2.2)], rfl, rfl, ⟨[(I x65.2.1)], [(I ((xs37.set (Bj.length : Int).toNat (x59.1, r55, x59.2.2.1, x59.2.2.2)).length : Int)), (I x65.2.2.2)], rfl, rfl, ⟨[(I ((xs37.set (Bj.length : Int).toNat (x59.1, r55, x59.2.2.1, x59.2.2.2)).length : Int))], [(I x65.2.2.2)], rfl, rfl, rfl⟩⟩⟩)) wn ?_
      rintro σ70 ⟨H, -⟩
      have hsl : (Sl a39 (xs37.set (Bj.length : Int).toNat (x59.1, r55, x59.2.2.1, x59.2.2.2)) c40) = (Sl a39 ((xs37.set (Bj.length : Int).toNat (x59.1, r55, x59.2.2.1, x59.2.2.2)).set (Bj.length : Int).toNat (x65.1, x65.2.1, ((xs37.set (Bj.length : Int).toNat (x59.1, r55, x59.2.2.1, x59.2.2.2)).length : Int), x65.2.2.2)) c40) := sl_len List.length_set.symm
      rw [hsl]; rw [hsl] at H; clear hsl
      refine w_end (q_then (rg (sm (Sl a39 ((xs37.set (Bj.length : Int).toNat (x59.1, r55, x59.2.2.1, x59.2.2.2)).set (Bj.length : Int).toNat (x65.1, x65.2.1, ((xs37.set (Bj.length : Int).toNat (x59.1, r55, x59.2.2.1, x59.2.2.2)).length : Int), x65.2.2.2)) c40) rfl (sm (Sl a27 r24 c28) rfl (sm (I (w64 ((w64 ((r24.length : Int) + 1)).tdiv 2))) rfl ?_)))))
      revert h; refine br fun xs71 hx72 h => ?_
      obtain ⟨σ77, hw78, H, -⟩ := H.pub 3 rfl (Nat.zero_le _)
      rw [← hw78]; clear hw78
      obtain ⟨a73, c74, hs75, hR76⟩ := (H.ro 0 rfl).slice hx72
      replace H := H.add (d := Ch.ro 0 (Sl a73 xs71 c74) xs71) hR76 (fun _ h => h)
      clear hR76
      refine st (v := (Sl a73 xs71 c74)) (rv_slice_h Tryz.underlying27 ti54 hs75 rfl rfl) (sm (I Bl) rfl ?_)
      revert h; refine br fun r79 hx80 h => ?_
      have hc81 := ih (Bm := a39) (Bn := c40) (Bo := a73) (Bp := c74) hx80
      refine st_call (cx_call hc81 (ent_f hc81.fn rfl) hn0 (H.sel' [2, 0, 0, 1, 3, 4, 5, 6] rfl rfl : Hp S0 σ0 _ ([_, _] ++ _))) wn ?_
      rintro _ σ84 ⟨_, ⟨a82, c83, rfl, rfl⟩, H, -⟩
      replace H : Hp _ _ _ [_, _, _, _, _, _, _] := H
      refine sa (Sl a82 r79 c83) rfl (w_end ?_)
      replace H := H.ownSc 0 0 0 rfl (Nat.le_refl _)
      obtain rfl := sj h
      exact ⟨rfl, _, σ84, a82, c83, fr_join ⟨rfl, rfl, rfl, rfl, rfl, trivial⟩, rfl, H.sel' [0, 2] rfl rfl⟩
    ·replace h := bif_f hb43 h
     refine c_skip ?_
     obtain ⟨σ85, hw86, H, -⟩ := H.pub 2 rfl (Nat.zero_le _)
     rw [← hw86]; clear hw86
     obtain rfl := sj h
     exact ⟨rfl, _, σ85, a39, c40, fr_join ⟨rfl, rfl, rfl, rfl, rfl, trivial⟩, rfl, H.sel' [1, 0] rfl rfl⟩
   ·clear hj
    have h := h'
    clear h' H
    rintro e a w ⟨rfl, ρ, σ87, a88, c89, rfl, rfl, H⟩
    refine q_then (c_seq (c_seq (rg (sm (I (w64 ((w64 ((r24.length : Int) + 1)).tdiv 2))) rfl (sm (Sl a27 r24 c28) rfl (st (v := (I (r24.length : Int))) (rv_len Tryz.underlying27 rfl) (st (v := (B (decide ((w64 ((w64 ((r24.length : Int) + 1)).tdiv 2)) < (r24.length : Int))))) (rv_lss (a := (w64 ((w64 ((r24.length : Int) + 1)).tdiv 2))) (b := (r24.length : Int)) rfl rfl) (w_end (q_then ?_)))))))))
    obtain ⟨o90, hj, h'⟩ := bind_some h
    clear h
    refine c_cut (fun e a w => e = .normal ∧ ∃ (ρ : Nat → Value) (σ : St) (aj1 : Option Addr) (cj2 : Nat), a = fr 83 (updL ρ [(0, (Sl aj1 o90 cj2))]) ∧ w = σ.w ∧ Hp S0 σ0 σ [Ch.own 0 0 (Sl aj1 o90 cj2) o90]) ?_ ?_
    ·clear h'
     rename _ = some o90 => h
     refine cd_cond (decide ((w64 ((w64 ((r24.length : Int) + 1)).tdiv 2)) < (r24.length : Int))) rfl (fun hb91 => ?_) (fun hb91 => ?_)
     ·replace h := bif_t hb91 h
      refine c_seq (rg (sm (Sl a88 o42 c89) rfl (sm (I (Bj.length : Int)) rfl (sm (Sl a88 o42 c89) rfl (st (v := (I (o42.length : Int))) (rv_len Tryz.underlying49 rfl) ?_)))))
      revert h; refine br fun x92 hx93 h => ?_
      obtain ⟨b95, o96, hi94, -⟩ := (H.own 0 rfl).ix hx93
      refine st (v := (pt b95 o96)) (rv_ix Tryz.underlying49 ti105 rfl rfl hi94) (st (v := (pt b95 (o96 + 3))) (rv_fieldAddr (off := 3) (ft := 3) Tryz.underlying105 rfl ti3 rfl rfl) ?_)
      refine st_exS (ex_store_own (e' := (x92.1, x92.2.1, x92.2.2.1, (o42.length : Int))) (vs := [(I (o42.length : Int))]) (k := 3) H (i := 0) rfl ti3 hx93 hi94 rfl rfl rfl rfl rfl (Nat.le_of_ble_eq_true rfl) (by simp [plain]) (by rintro _ ⟨_, _, rfl, rfl, ⟨_, _, rfl, rfl, ⟨_, _, rfl, rfl, rfl⟩⟩⟩; exact ⟨[(I x92.1)], [(I x92.2.1), (I x92.2.2.1), (I (o42.length : Int))], rfl, rfl, ⟨[(I x92.2.1)], [(I x92.2.2.1), (I (o42.length : Int))], rfl, rfl, ⟨[(I x92.2.2.1)], [(I (o42.length : Int))], rfl, rfl, rfl⟩⟩⟩)) wn ?_
      rintro σ97 ⟨H, -⟩
      have hsl : (Sl a88 o42 c89) = (Sl a88 (o42.set (Bj.length : Int).toNat (x92.1, x92.2.1, x92.2.2.1, (o42.length : Int))) c89) := sl_len List.length_set.symm
      rw [hsl]; rw [hsl] at H; clear hsl
      refine w_end (q_then (rg (sm (Sl a88 (o42.set (Bj.length : Int).toNat (x92.1, x92.2.1, x92.2.2.1, (o42.length : Int))) c89) rfl (sm (Sl a27 r24 c28) rfl (sm (I (w64 ((w64 ((r24.length : Int) + 1)).tdiv 2))) rfl ?_)))))
      revert h; refine br fun xs98 hx99 h => ?_
      obtain ⟨a100, c101, hs102, hR103⟩ := (H.ro 1 rfl).slice hx99
      replace H := H.add (d := Ch.ro 0 (Sl a100 xs98 c101) xs98) hR103 (fun _ h => h)
      clear hR103
      refine st (v := (Sl a100 xs98 c101)) (rv_slice_l Tryz.underlying27 ti54 hs102 rfl rfl) (sm (I Bl) rfl ?_)
      revert h; refine br fun r104 hx105 h => ?_
      have hc106 := ih (Bm := a88) (Bn := c89) (Bo := a100) (Bp := c101) hx105
      refine st_call (cx_call hc106 (ent_f hc106.fn rfl) hn0 (H.sel' [1, 0, 0, 2] rfl rfl : Hp S0 σ0 _ ([_, _] ++ _))) wn ?_
      rintro _ σ109 ⟨_, ⟨a107, c108, rfl, rfl⟩, H, -⟩
      replace H : Hp _ _ _ [_, _, _] := H
      refine sa (Sl a107 r104 c108) rfl (w_end ?_)
      replace H := H.ownSc 0 0 0 rfl (Nat.le_refl _)
      obtain rfl := sj h
      exact ⟨rfl, _, σ109, a107, c108, fr_join ⟨rfl, trivial⟩, rfl, H.sel' [0] rfl rfl⟩
     ·replace h := bif_f hb91 h
      refine c_skip ?_
      obtain rfl := sj h
      exact ⟨rfl, _, σ87, a88, c89, fr_join ⟨rfl, trivial⟩, rfl, H.sel' [0] rfl rfl⟩
    ·clear hj
     have h := h'
     clear h' H
     rintro e a w ⟨rfl, ρ, σ110, a111, c112, rfl, rfl, H⟩
     refine q_then (c_seq (rg (sm (Sl a111 o90 c112) rfl (sa (Sl a111 o90 c112) rfl (w_end (q_then (c_ret ?_)))))))
     replace H := H.ownSc 0 0 n0 rfl (Nat.le_refl _)
     obtain rfl := sj h
     exact fin_ret (v := (Sl a111 o90 c112)) (results_ok Tryz.results48 (res_tmp (v := (Sl a111 o90 c112)) rfl res_nil) rfl) ⟨a111, c112, rfl, rfl⟩ (H.sel' [0] rfl rfl)

end Go.Vs
