/- The functions compute what their models say. -/
import Derived.Test.YtefojfippfoppaaGreatKProbeNearestAllM
import Derived.Test.YtefojfippfoppaaGreatProbeNearestAllEng2
import Derived.Test.YtefojfippfoppaaGreatProg
set_option linter.unusedVariables false
set_option linter.unusedSimpArgs false
set_option maxRecDepth 20000
namespace Go.Vs
open Go Go.Proofs
attribute [local irreducible] Code.wp Code.wpIn wpList wpListIn wpQuiet Calls CallsIn

theorem ti3 : TI Tryz.prog 3 (.int .i64 0) 1 8 := TI.mk' (by kernel_rfl)
theorem ti5 : TI Tryz.prog 5 (.int .u8 0) 1 1 := TI.mk' (by kernel_rfl)
theorem ti22 : TI Tryz.prog 22 (.slice none 0 0) 1 24 := TI.mk' (by kernel_rfl)
theorem ti23 : TI Tryz.prog 23 (.slice none 0 0) 1 24 := TI.mk' (by kernel_rfl)
theorem ti24 : TI Tryz.prog 24 (.slice none 0 0) 1 24 := TI.mk' (by kernel_rfl)
theorem ti27 : TI Tryz.prog 27 (.slice none 0 0) 1 24 := TI.mk' (by kernel_rfl)
theorem ti38 : TI Tryz.prog 38 (.agg #[(.int .i64 0), (.int .i64 0)]) 2 16 := TI.mk' (by kernel_rfl)
theorem ti51 : TI Tryz.prog 51 (.slice none 0 0) 1 24 := TI.mk' (by kernel_rfl)
theorem ti53 : TI Tryz.prog 53 (.agg #[(.int .i64 0), (.slice none 0 0)]) 2 32 := TI.mk' (by kernel_rfl)
theorem ti79 : TI Tryz.prog 79 (.agg #[(.int .i64 0), (.slice none 0 0), (.int .i64 0)]) 3 40 := TI.mk' (by kernel_rfl)
theorem ti109 : TI Tryz.prog 109 (.agg #[(.slice none 0 0), (.int .i64 0)]) 2 32 := TI.mk' (by kernel_rfl)
theorem ti125 : TI Tryz.prog 125 (.agg #[(.int .i64 0), (.int .i64 0), (.int .i64 0), (.int .i64 0)]) 4 32 := TI.mk' (by kernel_rfl)
theorem ti176 : TI Tryz.prog 176 (.int .u64 0) 1 8 := TI.mk' (by kernel_rfl)
theorem bp38 {fs : Array Field} (hT : Tryz.prog.underlying 38 = some (.struct fs)) (w : World) : (fs.mapM (fun f => do pure (f.offset, ← sizeOf f.type)) : Sem (Array (Nat × Nat))).run Tryz.prog w = .ok #[(0, 1), (1, 1)] w := by
  rw [Tryz.underlying38] at hT; cases hT
  simp [run_typeInfo ti3]
theorem bp53 {fs : Array Field} (hT : Tryz.prog.underlying 53 = some (.struct fs)) (w : World) : (fs.mapM (fun f => do pure (f.offset, ← sizeOf f.type)) : Sem (Array (Nat × Nat))).run Tryz.prog w = .ok #[(0, 1), (1, 1)] w := by
  rw [Tryz.underlying53] at hT; cases hT
  simp [run_typeInfo ti3, run_typeInfo ti51]
theorem bp79 {fs : Array Field} (hT : Tryz.prog.underlying 79 = some (.struct fs)) (w : World) : (fs.mapM (fun f => do pure (f.offset, ← sizeOf f.type)) : Sem (Array (Nat × Nat))).run Tryz.prog w = .ok #[(0, 1), (1, 1), (2, 1)] w := by
  rw [Tryz.underlying79] at hT; cases hT
  simp [run_typeInfo ti24, run_typeInfo ti3]
theorem bp109 {fs : Array Field} (hT : Tryz.prog.underlying 109 = some (.struct fs)) (w : World) : (fs.mapM (fun f => do pure (f.offset, ← sizeOf f.type)) : Sem (Array (Nat × Nat))).run Tryz.prog w = .ok #[(0, 1), (1, 1)] w := by
  rw [Tryz.underlying109] at hT; cases hT
  simp [run_typeInfo ti22, run_typeInfo ti3]
theorem intfs38 : IntFs Tryz.prog 0 (Tryz.prog.fieldsOf 38).toList := by
  rw [Program.fieldsOf, Tryz.underlying38]
  exact ⟨rfl, by decide, Tryz.underlying3, ⟨rfl, by decide, Tryz.underlying3, trivial⟩⟩

theorem c_laws_equalHits {Aa : List (Int × Int)} {Ac : List (Int × Int)} {Ad : Option Addr} {Ae : Nat} {Af : Option Addr} {Ag : Nat} {r : Bool} (h : M.laws_equalHits Aa Ac = some r) :
    Cal2 Tryz.prog 10 [(Sl Ad Aa Ae), (Sl Af Ac Ag)] [Ch.ro 0 (Sl Ad Aa Ae) Aa, Ch.ro 0 (Sl Af Ac Ag) Ac] (fun n0 v L => v = (B r) ∧ L = []) := by
 refine cal2 (n := 26) Tryz.func10 rfl rfl rfl rfl ?_
 intro S0 σ0 n0 hn0 H
 unfold M.laws_equalHits at h
 refine c_seq (rg (sa (B false) rfl (w_end (q_then (c_seq (c_seq (rg (sm (Sl Ad Aa Ae) rfl (st (v := (I (Aa.length : Int))) (rv_len Tryz.underlying27 rfl) (sm (Sl Af Ac Ag) rfl (st (v := (I (Ac.length : Int))) (rv_len Tryz.underlying27 rfl) ?_)))))))))))
 refine st (v := (B ((Aa.length : Int) != (Ac.length : Int)))) (rv_neq (a := (Aa.length : Int)) (b := (Ac.length : Int)) rfl rfl) (w_end (q_then ?_))
 refine cd_cond ((Aa.length : Int) != (Ac.length : Int)) rfl (fun hb1 => ?_) (fun hb1 => ?_)
 ·replace h := bif_t hb1 h
  refine c_seq (rg (sa (B false) rfl (w_end (q_then (c_ret (q_then_r ?_))))))
  obtain rfl := sj h
  exact fin_ret (v := (B false)) (results_ok Tryz.results10 (res_tmp (v := (B false)) rfl res_nil) rfl) ⟨rfl, rfl⟩ (H.sel' [] rfl rfl)
 ·replace h := bif_f hb1 h
  refine c_skip (q_then (c_seq (c_seq (rg (sa (I 0) rfl (w_end (q_then ?_)))))))
  obtain ⟨o2, hj, h'⟩ := bind_some h
  clear h
  refine c_cut (fun e a w => (∃ t, o2 = (.inl t) ∧ e = .normal ∧ ∃ (ρ : Nat → Value) (σ : St), a = fr 26 (updL ρ []) ∧ w = σ.w ∧ Hp S0 σ0 σ []) ∨ (∃ t, o2 = (.inr t) ∧ e = .ret ∧ ∃ (ρ : Nat → Value) (σ : St), a = fr 26 (updL ρ [(4, (B t))]) ∧ w = σ.w ∧ Hp S0 σ0 σ [])) ?_ ?_
  ·clear h'
   rename _ = some o2 => h
   refine c_blk (wp_loopM _ h (fun s3 a w => ∃ (ρ : Nat → Value) (σ : St), a = fr 26 (updL ρ [(0, (Sl Ad Aa Ae)), (1, (Sl Af Ac Ag)), (5, (I s3))]) ∧ w = σ.w ∧ Hp S0 σ0 σ [Ch.ro 0 (Sl Ad Aa Ae) Aa, Ch.ro 0 (Sl Af Ac Ag) Ac]) ⟨_, σ0, fr_join ⟨rfl, rfl, rfl, trivial⟩, rfl, H.sel' [0, 1] rfl rfl⟩ ?_)
   clear h H
   rintro s3 a w o ⟨ρ, σ4, rfl, rfl, H⟩ h hres
   refine c_seq (c_seq (rg (sm (I s3) rfl (sm (Sl Ad Aa Ae) rfl (st (v := (I (Aa.length : Int))) (rv_len Tryz.underlying27 rfl) (st (v := (B (decide (s3 < (Aa.length : Int))))) (rv_lss (a := s3) (b := (Aa.length : Int)) rfl rfl) (w_end (q_then ?_))))))))
   refine cd_cond (decide (s3 < (Aa.length : Int))) rfl (fun hb5 => ?_) (fun hb5 => ?_)
   ·replace h := bif_t hb5 h
    refine c_skip (q_then (c_seq (c_blk (c_seq ?_))))
    refine rgP (σ := σ4) 8 (by kernel_rfl) (by kernel_rfl) (by kernel_rfl) ?_
    refine sq (v := (Sl Ad Aa Ae)) (rv_move rfl) (sq (v := (I s3)) (rv_move rfl) ?_)
    revert h; refine br fun x6 hx7 h => ?_
    obtain ⟨b9, o10, hi8, -⟩ := (H.ro 0 rfl).ix hx7
    refine sq (v := (pt b9 o10)) (rv_ix Tryz.underlying27 ti38 rfl rfl hi8) ?_
    obtain ⟨_, ⟨_, _, rfl, rfl, rfl⟩, hl11, hc12⟩ := ((H.ro 0 rfl).at hx7 hi8).cells
    refine sq (v := (.agg #[(I x6.1), (I x6.2)])) (rv_load Tryz.underlying38 rfl ti38 rfl hl11 hc12) (sq (v := (Sl Af Ac Ag)) (rv_move rfl) (sq (v := (I s3)) (rv_move rfl) ?_))
    revert h; refine br fun x13 hx14 h => ?_
    obtain ⟨b16, o17, hi15, -⟩ := (H.ro 1 rfl).ix hx14
    refine sq (v := (pt b16 o17)) (rv_ix Tryz.underlying27 ti38 rfl rfl hi15) ?_
    obtain ⟨_, ⟨_, _, rfl, rfl, rfl⟩, hl18, hc19⟩ := ((H.ro 1 rfl).at hx14 hi15).cells
    refine sq (v := (.agg #[(I x13.1), (I x13.2)])) (rv_load Tryz.underlying38 rfl ti38 rfl hl18 hc19) (sq_end ?_)
    intro σ20 hm21
    replace H := H.grow (hm21.mono fun _ h => h); clear hm21
    refine st (v := (B (!(([x6.1, x6.2] : List Int) == ([x13.1, x13.2] : List Int))))) (rv_neqI (xs := ([x6.1, x6.2] : List Int)) (ys := ([x13.1, x13.2] : List Int)) (by kernel_rfl) (by kernel_rfl) (by kernel_rfl) rfl (by kernel_rfl) (by exact intfs38) rfl rfl) ?_
    refine w_end (q_then ?_)
    refine cd_cond (!(([x6.1, x6.2] : List Int) == ([x13.1, x13.2] : List Int))) rfl (fun hb22 => ?_) (fun hb22 => ?_)
    ·replace h := bif_t hb22 h
     refine c_seq (rg (sa (B false) rfl (w_end (q_then (c_ret (q_blk_r (q_then_r (q_then_r (q_blk_r ?_)))))))))
     obtain rfl := sj h
     obtain rfl := hres _ rfl
     exact .inr (⟨_, rfl, rfl, _, σ20, fr_join ⟨rfl, trivial⟩, rfl, H.sel' [] rfl rfl⟩)
    ·replace h := bif_f hb22 h
     refine c_skip (q_blk (q_then (rg (sm (I s3) rfl (st (v := (I (w64 (s3 + 1)))) (rv_add (a := s3) (b := 1) rfl rfl) (sa (I (w64 (s3 + 1))) rfl (w_end (q_then ?_))))))))
     obtain rfl := sj h
     exact ⟨_, rfl, _, σ20, fr_join ⟨rfl, rfl, rfl, trivial⟩, rfl, H.sel' [0, 1] rfl rfl⟩
   ·replace h := bif_f hb5 h
    refine c_exit (q_then_x (q_then_x (q_blk_hit ?_)))
    obtain rfl := sj h
    obtain rfl := hres _ rfl
    exact .inl ⟨_, rfl, rfl, _, σ4, fr_join trivial, rfl, H.sel' [] rfl rfl⟩
  ·clear hj
   have h := h'
   clear h' H
   rintro e a w (⟨t23, rfl, rfl, ρ, σ24, rfl, rfl, H⟩ | ⟨t25, rfl, rfl, ρ, σ26, rfl, rfl, H⟩)
   ·replace h := selim_l h
    refine q_then (c_seq (rg (sa (B true) rfl (w_end (q_then (c_ret ?_))))))
    obtain rfl := sj h
    exact fin_ret (v := (B true)) (results_ok Tryz.results10 (res_tmp (v := (B true)) rfl res_nil) rfl) ⟨rfl, rfl⟩ (H.sel' [] rfl rfl)
   ·replace h := selim_r h
    refine q_then_r ?_
    obtain rfl := sj h
    exact fin_ret (v := (B t25)) (results_ok Tryz.results10 (res_tmp (v := (B t25)) rfl res_nil) rfl) ⟨rfl, rfl⟩ (H.sel' [] rfl rfl)

theorem c_impl_ValidVector {Ah : List Int} {Ai : Option Addr} {Aj : Nat} {r : Bool} (h : M.impl_ValidVector Ah = some r) :
    Cal2 Tryz.prog 54 [(Sl Ai Ah Aj)] [Ch.ro 0 (Sl Ai Ah Aj) Ah] (fun n0 v L => v = (B r) ∧ L = []) := by
 refine cal2 (n := 21) Tryz.func54 rfl rfl rfl rfl ?_
 intro S0 σ0 n0 hn0 H
 unfold M.impl_ValidVector at h
 refine c_seq (rg (sa (B false) rfl (w_end (q_then (c_seq (c_seq (rg (sm (Sl Ai Ah Aj) rfl (st (v := (I (Ah.length : Int))) (rv_len Tryz.underlying24 rfl) (st (v := (B ((Ah.length : Int) != 4))) (rv_neq (a := (Ah.length : Int)) (b := 4) rfl rfl) (w_end ?_)))))))))))
 refine q_then ?_
 refine cd_cond ((Ah.length : Int) != 4) rfl (fun hb1 => ?_) (fun hb1 => ?_)
 ·replace h := bif_t hb1 h
  refine c_seq (rg (sa (B false) rfl (w_end (q_then (c_ret (q_then_r ?_))))))
  obtain rfl := sj h
  exact fin_ret (v := (B false)) (results_ok Tryz.results54 (res_tmp (v := (B false)) rfl res_nil) rfl) ⟨rfl, rfl⟩ (H.sel' [] rfl rfl)
 ·replace h := bif_f hb1 h
  refine c_skip (q_then (c_seq (c_seq (rg (sm (Sl Ai Ah Aj) rfl (st (v := (I (Ah.length : Int))) (rv_len Tryz.underlying24 rfl) (sm (I 0) rfl (w_end (q_then ?_)))))))))
  obtain ⟨o2, hj, h'⟩ := bind_some h
  clear h
  refine c_cut (fun e a w => (∃ t, o2 = (.inl t) ∧ e = .normal ∧ ∃ (ρ : Nat → Value) (σ : St), a = fr 21 (updL ρ []) ∧ w = σ.w ∧ Hp S0 σ0 σ []) ∨ (∃ t, o2 = (.inr t) ∧ e = .ret ∧ ∃ (ρ : Nat → Value) (σ : St), a = fr 21 (updL ρ [(2, (B t))]) ∧ w = σ.w ∧ Hp S0 σ0 σ [])) ?_ ?_
  ·clear h'
   rename _ = some o2 => h
   refine c_blk (wp_loopM _ h (fun s3 a w => ∃ (ρ : Nat → Value) (σ : St), a = fr 21 (updL ρ [(8, (Sl Ai Ah Aj)), (9, (I (Ah.length : Int))), (10, (I s3))]) ∧ w = σ.w ∧ Hp S0 σ0 σ [Ch.ro 0 (Sl Ai Ah Aj) Ah]) ⟨_, σ0, fr_join ⟨rfl, rfl, rfl, trivial⟩, rfl, H.sel' [0] rfl rfl⟩ ?_)
   clear h H
   rintro s3 a w o ⟨ρ, σ4, rfl, rfl, H⟩ h hres
   refine c_seq (rg (st (v := (B (decide (s3 < (Ah.length : Int))))) (rv_lss (a := s3) (b := (Ah.length : Int)) rfl rfl) (w_end (q_then (c_seq ?_)))))
   refine cd_cond (decide (s3 < (Ah.length : Int))) rfl (fun hb5 => ?_) (fun hb5 => ?_)
   ·replace h := bif_t hb5 h
    refine c_skip (q_then (c_seq (c_blk (c_seq (rg ?_)))))
    revert h; refine br fun x6 hx7 h => ?_
    obtain ⟨b9, o10, hi8, -⟩ := (H.ro 0 rfl).ix hx7
    refine st (v := (pt b9 o10)) (rv_ix Tryz.underlying24 ti3 rfl rfl hi8) ?_
    have hc11 := ((H.ro 0 rfl).at hx7 hi8).int
    refine st (v := (I x6)) (rv_load1 Tryz.underlying3 rfl rfl hc11) (sa (I x6) rfl (w_end (q_then (c_seq ?_))))
    obtain ⟨o12, hj, h'⟩ := bind_some h
    clear h
    refine c_cut (fun e a w => e = .normal ∧ ∃ (ρ : Nat → Value) (σ : St), a = fr 21 (updL ρ [(8, (Sl Ai Ah Aj)), (9, (I (Ah.length : Int))), (10, (I s3)), (19, (B o12))]) ∧ w = σ.w ∧ Hp S0 σ0 σ [Ch.ro 0 (Sl Ai Ah Aj) Ah]) ?_ ?_
    ·clear h'
     rename _ = some o12 => h
     refine rg (sm (I x6) rfl (st (v := (B (decide (x6 < (-100))))) (rv_lss (a := x6) (b := (-100)) rfl rfl) (sm (B (decide (x6 < (-100)))) rfl ?_)))
     rcases Bool.eq_false_or_eq_true (decide (x6 < (-100))) with hb13 | hb13
     ·replace h := bif_t hb13 h
      refine st_skip (congrArg some hb13) (st_skip (congrArg some hb13) (st (v := (B true)) (rv_pick_t (congrArg B hb13) rfl) (w_end ?_)))
      obtain rfl := sj h
      exact ⟨rfl, _, σ4, fr_join ⟨rfl, rfl, rfl, rfl, trivial⟩, rfl, H.sel' [0] rfl rfl⟩
     ·replace h := bif_f hb13 h
      refine st_g (v := (I x6)) (congrArg some hb13) (rv_move rfl) (st_g (v := (B (decide (100 < x6)))) (congrArg some hb13) (rv_gtr (a := x6) (b := 100) rfl rfl) (st (v := (B (decide (100 < x6)))) (rv_pick_f (congrArg B hb13) rfl) (w_end ?_)))
      obtain rfl := sj h
      exact ⟨rfl, _, σ4, fr_join ⟨rfl, rfl, rfl, rfl, trivial⟩, rfl, H.sel' [0] rfl rfl⟩
    ·clear hj
     have h := h'
     clear h' H
     rintro e a w ⟨rfl, ρ, σ14, rfl, rfl, H⟩
     refine q_then ?_
     refine cd_cond o12 rfl (fun hb15 => ?_) (fun hb15 => ?_)
     ·replace h := bif_t hb15 h
      refine c_seq (rg (sa (B false) rfl (w_end (q_then (c_ret (q_blk_r (q_then_r (q_then_r (q_blk_r ?_)))))))))
      obtain rfl := sj h
      obtain rfl := hres _ rfl
      exact .inr (⟨_, rfl, rfl, _, σ14, fr_join ⟨rfl, trivial⟩, rfl, H.sel' [] rfl rfl⟩)
     ·replace h := bif_f hb15 h
      refine c_skip (q_blk (q_then (rg (st (v := (I (w64 (s3 + 1)))) (rv_add (a := s3) (b := 1) rfl rfl) (sm (I (w64 (s3 + 1))) rfl (w_end (q_then ?_)))))))
      obtain rfl := sj h
      exact ⟨_, rfl, _, σ14, fr_join ⟨rfl, rfl, rfl, trivial⟩, rfl, H.sel' [0] rfl rfl⟩
   ·replace h := bif_f hb5 h
    refine c_exit (q_then_x (q_then_x (q_blk_hit ?_)))
    obtain rfl := sj h
    obtain rfl := hres _ rfl
    exact .inl ⟨_, rfl, rfl, _, σ4, fr_join trivial, rfl, H.sel' [] rfl rfl⟩
  ·clear hj
   have h := h'
   clear h' H
   rintro e a w (⟨t16, rfl, rfl, ρ, σ17, rfl, rfl, H⟩ | ⟨t18, rfl, rfl, ρ, σ19, rfl, rfl, H⟩)
   ·replace h := selim_l h
    refine q_then (c_seq (rg (sa (B true) rfl (w_end (q_then (c_ret ?_))))))
    obtain rfl := sj h
    exact fin_ret (v := (B true)) (results_ok Tryz.results54 (res_tmp (v := (B true)) rfl res_nil) rfl) ⟨rfl, rfl⟩ (H.sel' [] rfl rfl)
   ·replace h := selim_r h
    refine q_then_r ?_
    obtain rfl := sj h
    exact fin_ret (v := (B t18)) (results_ok Tryz.results54 (res_tmp (v := (B t18)) rfl res_nil) rfl) ⟨rfl, rfl⟩ (H.sel' [] rfl rfl)

theorem c_impl_validKind {Ak : Int}  {r : Bool} (h : M.impl_validKind Ak = some r) :
    Cal2 Tryz.prog 62 [(I Ak)] [] (fun n0 v L => v = (B r) ∧ L = []) := by
 refine cal2 (n := 9) Tryz.func62 rfl rfl rfl rfl ?_
 intro S0 σ0 n0 hn0 H
 unfold M.impl_validKind at h
 refine c_seq (rg (sa (B false) rfl (w_end (q_then (c_seq (rg (sm (I Ak) rfl (st (v := (B (decide (1 ≤ Ak)))) (rv_geq (a := Ak) (b := 1) rfl rfl) (sm (B (decide (1 ≤ Ak))) rfl ?_)))))))))
 rcases Bool.eq_false_or_eq_true (decide (1 ≤ Ak)) with hb1 | hb1
 ·replace h := bif_t hb1 h
  refine st_g (v := (I Ak)) (congrArg some hb1) (rv_move rfl) (st_g (v := (B (decide (Ak ≤ 4)))) (congrArg some hb1) (rv_leq (a := Ak) (b := 4) rfl rfl) (st (v := (B (decide (Ak ≤ 4)))) (rv_pick_t (congrArg B hb1) rfl) (sa (B (decide (Ak ≤ 4))) rfl (w_end (q_then (c_ret ?_))))))
  obtain rfl := sj h
  exact fin_ret (v := (B (decide (Ak ≤ 4)))) (results_ok Tryz.results62 (res_tmp (v := (B (decide (Ak ≤ 4)))) rfl res_nil) rfl) ⟨rfl, rfl⟩ (H.sel' [] rfl rfl)
 ·replace h := bif_f hb1 h
  refine st_skip (congrArg some hb1) (st_skip (congrArg some hb1) (st (v := (B false)) (rv_pick_f (congrArg B hb1) rfl) (sa (B false) rfl (w_end (q_then (c_ret ?_))))))
  obtain rfl := sj h
  exact fin_ret (v := (B false)) (results_ok Tryz.results62 (res_tmp (v := (B false)) rfl res_nil) rfl) ⟨rfl, rfl⟩ (H.sel' [] rfl rfl)

theorem c_impl_validKey {Am : Int}  {r : Bool} (h : M.impl_validKey Am = some r) :
    Cal2 Tryz.prog 115 [(I Am)] [] (fun n0 v L => v = (B r) ∧ L = []) := by
 refine cal2 (n := 9) Tryz.func115 rfl rfl rfl rfl ?_
 intro S0 σ0 n0 hn0 H
 unfold M.impl_validKey at h
 refine c_seq (rg (sa (B false) rfl (w_end (q_then (c_seq (rg (sm (I Am) rfl (st (v := (B (decide (1 ≤ Am)))) (rv_geq (a := Am) (b := 1) rfl rfl) (sm (B (decide (1 ≤ Am))) rfl ?_)))))))))
 rcases Bool.eq_false_or_eq_true (decide (1 ≤ Am)) with hb1 | hb1
 ·replace h := bif_t hb1 h
  refine st_g (v := (I Am)) (congrArg some hb1) (rv_move rfl) (st_g (v := (B (decide (Am ≤ 99)))) (congrArg some hb1) (rv_leq (a := Am) (b := 99) rfl rfl) (st (v := (B (decide (Am ≤ 99)))) (rv_pick_t (congrArg B hb1) rfl) (sa (B (decide (Am ≤ 99))) rfl (w_end (q_then (c_ret ?_))))))
  obtain rfl := sj h
  exact fin_ret (v := (B (decide (Am ≤ 99)))) (results_ok Tryz.results115 (res_tmp (v := (B (decide (Am ≤ 99)))) rfl res_nil) rfl) ⟨rfl, rfl⟩ (H.sel' [] rfl rfl)
 ·replace h := bif_f hb1 h
  refine st_skip (congrArg some hb1) (st_skip (congrArg some hb1) (st (v := (B false)) (rv_pick_f (congrArg B hb1) rfl) (sa (B false) rfl (w_end (q_then (c_ret ?_))))))
  obtain rfl := sj h
  exact fin_ret (v := (B false)) (results_ok Tryz.results115 (res_tmp (v := (B false)) rfl res_nil) rfl) ⟨rfl, rfl⟩ (H.sel' [] rfl rfl)

theorem c_impl_validItem {Ao : Int × (List Int) × Int} {Ap : Option Addr} {Aq : Nat} {r : Bool} (h : M.impl_validItem Ao = some r) :
    Cal2 Tryz.prog 88 [(.agg #[(I Ao.1), (Sl Ap Ao.2.1 Aq), (I Ao.2.2)])] [Ch.ro 0 (Sl Ap Ao.2.1 Aq) Ao.2.1] (fun n0 v L => v = (B r) ∧ L = []) := by
 refine cal2 (n := 21) Tryz.func88 rfl rfl rfl rfl ?_
 intro S0 σ0 n0 hn0 H
 unfold M.impl_validItem at h
 refine c_seq (rg (st_ex (ex_box (cs := [(I Ao.1), (Sl Ap Ao.2.1 Aq), (I Ao.2.2)]) H hn0 rfl rfl) wn ?_))
 rintro _ σ2 ⟨b1, rfl, H, -⟩
 refine sa (B false) rfl (w_end (q_then (c_seq (rg (st (v := (pt b1 0)) (rv_fieldAddr (off := 0) (ft := 3) Tryz.underlying79 rfl ti3 rfl rfl) ?_)))))
 have hc3 := H.cell (u := (I Ao.1)) (o' := 0) 0 0 rfl rfl rfl
 refine st (v := (I Ao.1)) (rv_load1 Tryz.underlying3 rfl rfl hc3) ?_
 revert h; refine br fun r4 hx5 h => ?_
 have hc6 := c_impl_validKey hx5
 refine st_call (cx_call hc6 (ent_f hc6.fn rfl) hn0 (H.sel' [0, 1] rfl rfl : Hp S0 σ0 _ ([] ++ _))) wn ?_
 rintro _ σ7 ⟨_, ⟨rfl, rfl⟩, H, -⟩
 replace H : Hp _ _ _ [_, _] := H
 refine sm (B r4) rfl ?_
 rcases Bool.eq_false_or_eq_true r4 with hb8 | hb8
 ·replace h := bif_t hb8 h
  refine st_g (v := (pt b1 1)) (congrArg some hb8) (rv_fieldAddr (off := 1) (ft := 24) Tryz.underlying79 rfl ti24 rfl rfl) ?_
  have hc9 := H.cell (u := (Sl Ap Ao.2.1 Aq)) (o' := 1) 0 1 rfl rfl rfl
  refine st_g (v := (Sl Ap Ao.2.1 Aq)) (congrArg some hb8) (rv_load1 Tryz.underlying24 rfl rfl hc9) ?_
  revert h; refine br fun r10 hx11 h => ?_
  have hc12 := c_impl_ValidVector (Ai := Ap) (Aj := Aq) hx11
  refine st_call (cx_call hc12 (ent_f hc12.fn rfl) hn0 (H.sel' [1, 0, 1] rfl rfl : Hp S0 σ0 _ ([_] ++ _))) (wanted_yes rfl (by exact (congrArg some hb8))) ?_
  rintro _ σ13 ⟨_, ⟨rfl, rfl⟩, H, -⟩
  replace H : Hp _ _ _ [_, _] := H
  refine st (v := (B r10)) (rv_pick_t (congrArg B hb8) rfl) (sm (B r10) rfl ?_)
  rcases Bool.eq_false_or_eq_true r10 with hb14 | hb14
  ·replace h := bif_t hb14 h
   refine st_g (v := (pt b1 2)) (congrArg some hb14) (rv_fieldAddr (off := 2) (ft := 3) Tryz.underlying79 rfl ti3 rfl rfl) ?_
   have hc15 := H.cell (u := (I Ao.2.2)) (o' := 2) 0 2 rfl rfl rfl
   refine st_g (v := (I Ao.2.2)) (congrArg some hb14) (rv_load1 Tryz.underlying3 rfl rfl hc15) (st_g (v := (B (decide (0 ≤ Ao.2.2)))) (congrArg some hb14) (rv_geq (a := Ao.2.2) (b := 0) rfl rfl) (st (v := (B (decide (0 ≤ Ao.2.2)))) (rv_pick_t (congrArg B hb14) rfl) (sm (B (decide (0 ≤ Ao.2.2))) rfl ?_)))
   rcases Bool.eq_false_or_eq_true (decide (0 ≤ Ao.2.2)) with hb16 | hb16
   ·replace h := bif_t hb16 h
    refine st_g (v := (pt b1 2)) (congrArg some hb16) (rv_fieldAddr (off := 2) (ft := 3) Tryz.underlying79 rfl ti3 rfl rfl) ?_
    have hc17 := H.cell (u := (I Ao.2.2)) (o' := 2) 0 2 rfl rfl rfl
    refine st_g (v := (I Ao.2.2)) (congrArg some hb16) (rv_load1 Tryz.underlying3 rfl rfl hc17) (st_g (v := (B (decide (Ao.2.2 ≤ 15)))) (congrArg some hb16) (rv_leq (a := Ao.2.2) (b := 15) rfl rfl) (st (v := (B (decide (Ao.2.2 ≤ 15)))) (rv_pick_t (congrArg B hb16) rfl) (sa (B (decide (Ao.2.2 ≤ 15))) rfl (w_end (q_then (c_ret ?_))))))
    obtain rfl := sj h
    exact fin_ret (v := (B (decide (Ao.2.2 ≤ 15)))) (results_ok Tryz.results88 (res_tmp (v := (B (decide (Ao.2.2 ≤ 15)))) rfl res_nil) rfl) ⟨rfl, rfl⟩ (H.sel' [] rfl rfl)
   ·replace h := bif_f hb16 h
    refine st_skip (congrArg some hb16) (st_skip (congrArg some hb16) (st_skip (congrArg some hb16) (st (v := (B false)) (rv_pick_f (congrArg B hb16) rfl) (sa (B false) rfl (w_end (q_then (c_ret ?_)))))))
    obtain rfl := sj h
    exact fin_ret (v := (B false)) (results_ok Tryz.results88 (res_tmp (v := (B false)) rfl res_nil) rfl) ⟨rfl, rfl⟩ (H.sel' [] rfl rfl)
  ·replace h := bif_f hb14 h
   refine st_skip (congrArg some hb14) (st_skip (congrArg some hb14) (st_skip (congrArg some hb14) (st (v := (B false)) (rv_pick_f (congrArg B hb14) rfl) (sm (B false) rfl (st_skip rfl (st_skip rfl (st_skip rfl (st (v := (B false)) (rv_pick_f rfl rfl) (sa (B false) rfl (w_end (q_then ?_)))))))))))
   refine c_ret ?_
   obtain rfl := sj h
   exact fin_ret (v := (B false)) (results_ok Tryz.results88 (res_tmp (v := (B false)) rfl res_nil) rfl) ⟨rfl, rfl⟩ (H.sel' [] rfl rfl)
 ·replace h := bif_f hb8 h
  refine st_skip (congrArg some hb8) (st_skip (congrArg some hb8) (st_skip (congrArg some hb8) (st (v := (B false)) (rv_pick_f (congrArg B hb8) rfl) (sm (B false) rfl (st_skip rfl (st_skip rfl (st_skip rfl (st (v := (B false)) (rv_pick_f rfl rfl) (sm (B false) rfl (st_skip rfl (st_skip rfl ?_)))))))))))
  refine st_skip rfl (st (v := (B false)) (rv_pick_f rfl rfl) (sa (B false) rfl (w_end (q_then (c_ret ?_)))))
  obtain rfl := sj h
  exact fin_ret (v := (B false)) (results_ok Tryz.results88 (res_tmp (v := (B false)) rfl res_nil) rfl) ⟨rfl, rfl⟩ (H.sel' [] rfl rfl)

theorem c_impl_ValidStore {Ar : List (Int × (List Int) × Int)} {As : Option Addr} {Au : Nat} {r : Bool} (h : M.impl_ValidStore Ar = some r) :
    Cal2 Tryz.prog 63 [(Sl As Ar Au)] [Ch.ro 0 (Sl As Ar Au) Ar] (fun n0 v L => v = (B r) ∧ L = []) := by
 refine cal2 (n := 27) Tryz.func63 rfl rfl rfl rfl ?_
 intro S0 σ0 n0 hn0 H
 unfold M.impl_ValidStore at h
 refine c_seq (rg (sa (B false) rfl (w_end (q_then (c_seq (c_seq (rg (sm (Sl As Ar Au) rfl (st (v := (I (Ar.length : Int))) (rv_len Tryz.underlying23 rfl) (st (v := (B (decide (16 < (Ar.length : Int))))) (rv_gtr (a := (Ar.length : Int)) (b := 16) rfl rfl) (w_end ?_)))))))))))
 refine q_then ?_
 refine cd_cond (decide (16 < (Ar.length : Int))) rfl (fun hb1 => ?_) (fun hb1 => ?_)
 ·replace h := bif_t hb1 h
  refine c_seq (rg (sa (B false) rfl (w_end (q_then (c_ret (q_then_r ?_))))))
  obtain rfl := sj h
  exact fin_ret (v := (B false)) (results_ok Tryz.results63 (res_tmp (v := (B false)) rfl res_nil) rfl) ⟨rfl, rfl⟩ (H.sel' [] rfl rfl)
 ·replace h := bif_f hb1 h
  refine c_skip (q_then (c_seq (rg (sa (I 0) rfl (w_end (q_then (c_seq (c_seq (rg (sm (Sl As Ar Au) rfl (st (v := (I (Ar.length : Int))) (rv_len Tryz.underlying23 rfl) ?_)))))))))))
  refine sm (I 0) rfl (w_end (q_then ?_))
  obtain ⟨o2, hj, h'⟩ := bind_some h
  clear h
  refine c_cut (fun e a w => (∃ t, o2 = (.inl t) ∧ e = .normal ∧ ∃ (ρ : Nat → Value) (σ : St), a = fr 27 (updL ρ []) ∧ w = σ.w ∧ Hp S0 σ0 σ []) ∨ (∃ t, o2 = (.inr t) ∧ e = .ret ∧ ∃ (ρ : Nat → Value) (σ : St), a = fr 27 (updL ρ [(2, (B t))]) ∧ w = σ.w ∧ Hp S0 σ0 σ [])) ?_ ?_
  ·clear h'
   rename _ = some o2 => h
   refine c_blk (wp_loopM _ h (fun s3 a w => ∃ (ρ : Nat → Value) (σ : St), a = fr 27 (updL ρ [(3, (I s3.1)), (9, (Sl As Ar Au)), (10, (I (Ar.length : Int))), (11, (I s3.2))]) ∧ w = σ.w ∧ Hp S0 σ0 σ [Ch.ro 0 (Sl As Ar Au) Ar]) ⟨_, σ0, fr_join ⟨rfl, rfl, rfl, rfl, trivial⟩, rfl, H.sel' [0] rfl rfl⟩ ?_)
   clear h H
   rintro s3 a w o ⟨ρ, σ4, rfl, rfl, H⟩ h hres
   refine c_seq (rg (st (v := (B (decide (s3.2 < (Ar.length : Int))))) (rv_lss (a := s3.2) (b := (Ar.length : Int)) rfl rfl) (w_end (q_then (c_seq ?_)))))
   refine cd_cond (decide (s3.2 < (Ar.length : Int))) rfl (fun hb5 => ?_) (fun hb5 => ?_)
   ·replace h := bif_t hb5 h
    refine c_skip (q_then (c_seq (c_blk (c_seq (rg ?_)))))
    revert h; refine br fun x6 hx7 h => ?_
    obtain ⟨b9, o10, hi8, -⟩ := (H.ro 0 rfl).ix hx7
    refine st (v := (pt b9 o10)) (rv_ix Tryz.underlying23 ti79 rfl rfl hi8) ?_
    obtain ⟨_, ⟨_, _, rfl, rfl, ⟨_, _, rfl, ⟨_, rfl, hR15⟩, rfl⟩⟩, hl11, hc12⟩ := ((H.ro 0 rfl).at hx7 hi8).cells
    obtain ⟨a13, c14, rfl⟩ := hR15.isSl
    replace H := H.add (d := Ch.ro 0 (Sl a13 x6.2.1 c14) x6.2.1) hR15 (fun _ h => h)
    clear hR15
    refine st (v := (.agg #[(I x6.1), (Sl a13 x6.2.1 c14), (I x6.2.2)])) (rv_load Tryz.underlying79 rfl ti79 rfl hl11 hc12) (st_ex (ex_alloc (cs := [(I 0), (.slice none 0 0), (I 0)]) H hn0 ti79 rfl) wn ?_)
    rintro _ σ17 ⟨b16, rfl, H, -⟩
    refine st_exS (ex_store_box (k := 0) (cs := [(I 0), (.slice none 0 0), (I 0)]) (vs := [(I x6.1), (Sl a13 x6.2.1 c14), (I x6.2.2)]) (cs' := [(I x6.1), (Sl a13 x6.2.1 c14), (I x6.2.2)]) H (i := 0) rfl ti79 rfl rfl rfl rfl rfl (Nat.le_of_ble_eq_true rfl) (by simp [plain]) rfl) wn ?_
    rintro σ18 ⟨H, -⟩
    refine w_end (q_then (c_seq (c_seq ?_)))
    obtain ⟨o19, hj, h'⟩ := bind_some h
    clear h
    refine c_cut (fun e a w => e = .normal ∧ ∃ (ρ : Nat → Value) (σ : St), a = fr 27 (updL ρ [(5, (pt b16 0)), (9, (Sl As Ar Au)), (10, (I (Ar.length : Int))), (11, (I s3.2)), (23, (B o19))]) ∧ w = σ.w ∧ Hp S0 σ0 σ [Ch.ro 0 (Sl a13 x6.2.1 c14) x6.2.1, Ch.bx n0 b16 0 [(I x6.1), (Sl a13 x6.2.1 c14), (I x6.2.2)] [] [], Ch.ro 0 (Sl As Ar Au) Ar]) ?_ ?_
    ·clear h'
     rename _ = some o19 => h
     refine rg ?_
     have hc20 := H.cells 0 rfl
     refine st (v := (.agg #[(I x6.1), (Sl a13 x6.2.1 c14), (I x6.2.2)])) (rv_load (cs := [(I x6.1), (Sl a13 x6.2.1 c14), (I x6.2.2)]) Tryz.underlying79 rfl ti79 rfl rfl hc20) ?_
     revert h; refine br fun r21 hx22 h => ?_
     have hc23 := c_impl_validItem (Ap := a13) (Aq := c14) hx22
     refine st_call (cx_call hc23 (ent_f hc23.fn rfl) hn0 (H.sel' [1, 0, 1, 2] rfl rfl : Hp S0 σ0 _ ([_] ++ _))) wn ?_
     rintro _ σ24 ⟨_, ⟨rfl, rfl⟩, H, -⟩
     replace H : Hp _ _ _ [_, _, _] := H
     refine st (v := (B (!r21))) (rv_not rfl) (sm (B (!r21)) rfl ?_)
     rcases Bool.eq_false_or_eq_true (!r21) with hb25 | hb25
     ·replace h := bif_t hb25 h
      refine st_skip (congrArg some hb25) (st_skip (congrArg some hb25) (st_skip (congrArg some hb25) (st_skip (congrArg some hb25) (st (v := (B true)) (rv_pick_t (congrArg B hb25) rfl) (w_end ?_)))))
      obtain rfl := sj h
      exact ⟨rfl, _, σ24, fr_join ⟨rfl, rfl, rfl, rfl, rfl, trivial⟩, rfl, H.sel' [1, 0, 2] rfl rfl⟩
     ·replace h := bif_f hb25 h
      refine st_g (v := (pt b16 0)) (congrArg some hb25) (rv_fieldAddr (off := 0) (ft := 3) Tryz.underlying79 rfl ti3 rfl rfl) ?_
      have hc26 := H.cell (u := (I x6.1)) (o' := 0) 0 0 rfl rfl rfl
      refine st_g (v := (I x6.1)) (congrArg some hb25) (rv_load1 Tryz.underlying3 rfl rfl hc26) (st_g (v := (I s3.1)) (congrArg some hb25) (rv_move rfl) (st_g (v := (B (decide (x6.1 ≤ s3.1)))) (congrArg some hb25) (rv_leq (a := x6.1) (b := s3.1) rfl rfl) (st (v := (B (decide (x6.1 ≤ s3.1)))) (rv_pick_f (congrArg B hb25) rfl) (w_end ?_))))
      obtain rfl := sj h
      exact ⟨rfl, _, σ24, fr_join ⟨rfl, rfl, rfl, rfl, rfl, trivial⟩, rfl, H.sel' [1, 0, 2] rfl rfl⟩
    ·clear hj
     have h := h'
     clear h' H
     rintro e a w ⟨rfl, ρ, σ27, rfl, rfl, H⟩
     refine q_then ?_
     refine cd_cond o19 rfl (fun hb28 => ?_) (fun hb28 => ?_)
     ·replace h := bif_t hb28 h
      refine c_seq (rg (sa (B false) rfl (w_end (q_then (c_ret (q_then_r (q_blk_r (q_then_r (q_then_r (q_blk_r ?_))))))))))
      obtain rfl := sj h
      obtain rfl := hres _ rfl
      exact .inr (⟨_, rfl, rfl, _, σ27, fr_join ⟨rfl, trivial⟩, rfl, H.sel' [] rfl rfl⟩)
     ·replace h := bif_f hb28 h
      refine c_skip (q_then (rg (st (v := (pt b16 0)) (rv_fieldAddr (off := 0) (ft := 3) Tryz.underlying79 rfl ti3 rfl rfl) ?_)))
      have hc29 := H.cell (u := (I x6.1)) (o' := 0) 1 0 rfl rfl rfl
      refine st (v := (I x6.1)) (rv_load1 Tryz.underlying3 rfl rfl hc29) (sa (I x6.1) rfl (w_end (q_blk (q_then (rg (st (v := (I (w64 (s3.2 + 1)))) (rv_add (a := s3.2) (b := 1) rfl rfl) (sm (I (w64 (s3.2 + 1))) rfl (w_end (q_then ?_)))))))))
      obtain rfl := sj h
      exact ⟨_, rfl, _, σ27, fr_join ⟨rfl, rfl, rfl, rfl, trivial⟩, rfl, H.sel' [2] rfl rfl⟩
   ·replace h := bif_f hb5 h
    refine c_exit (q_then_x (q_then_x (q_blk_hit ?_)))
    obtain rfl := sj h
    obtain rfl := hres _ rfl
    exact .inl ⟨_, rfl, rfl, _, σ4, fr_join trivial, rfl, H.sel' [] rfl rfl⟩
  ·clear hj
   have h := h'
   clear h' H
   rintro e a w (⟨t30, rfl, rfl, ρ, σ31, rfl, rfl, H⟩ | ⟨t32, rfl, rfl, ρ, σ33, rfl, rfl, H⟩)
   ·replace h := selim_l h
    refine q_then (c_seq (rg (sa (B true) rfl (w_end (q_then (c_ret ?_))))))
    obtain rfl := sj h
    exact fin_ret (v := (B true)) (results_ok Tryz.results63 (res_tmp (v := (B true)) rfl res_nil) rfl) ⟨rfl, rfl⟩ (H.sel' [] rfl rfl)
   ·replace h := selim_r h
    refine q_then_r ?_
    obtain rfl := sj h
    exact fin_ret (v := (B t32)) (results_ok Tryz.results63 (res_tmp (v := (B t32)) rfl res_nil) rfl) ⟨rfl, rfl⟩ (H.sel' [] rfl rfl)

theorem c_impl_validSearch {Ar : List (Int × (List Int) × Int)} {Av : Int} {Aw : List Int} {Ax : Int} {As : Option Addr} {Au : Nat} {Ay : Option Addr} {Az : Nat} {r : Bool} (h : M.impl_validSearch Ar Av Aw Ax = some r) :
    Cal2 Tryz.prog 32 [(Sl As Ar Au), (I Av), (Sl Ay Aw Az), (I Ax)] [Ch.ro 0 (Sl As Ar Au) Ar, Ch.ro 0 (Sl Ay Aw Az) Aw] (fun n0 v L => v = (B r) ∧ L = []) := by
 refine cal2 (n := 27) Tryz.func32 rfl rfl rfl rfl ?_
 intro S0 σ0 n0 hn0 H
 unfold M.impl_validSearch at h
 refine c_seq (rg (sa (B false) rfl (w_end (q_then (c_seq (rg (sm (Sl As Ar Au) rfl ?_)))))))
 revert h; refine br fun r1 hx2 h => ?_
 have hc3 := c_impl_ValidStore (As := As) (Au := Au) hx2
 refine st_call (cx_call hc3 (ent_f hc3.fn rfl) hn0 (H.sel' [0, 0, 1] rfl rfl : Hp S0 σ0 _ ([_] ++ _))) wn ?_
 rintro _ σ4 ⟨_, ⟨rfl, rfl⟩, H, -⟩
 replace H : Hp _ _ _ [_, _] := H
 refine sm (B r1) rfl ?_
 rcases Bool.eq_false_or_eq_true r1 with hb5 | hb5
 ·replace h := bif_t hb5 h
  refine st_g (v := (I Av)) (congrArg some hb5) (rv_move rfl) ?_
  revert h; refine br fun r6 hx7 h => ?_
  have hc8 := c_impl_validKind hx7
  refine st_call (cx_call hc8 (ent_f hc8.fn rfl) hn0 (H.sel' [0, 1] rfl rfl : Hp S0 σ0 _ ([] ++ _))) (wanted_yes rfl (by exact (congrArg some hb5))) ?_
  rintro _ σ9 ⟨_, ⟨rfl, rfl⟩, H, -⟩
  replace H : Hp _ _ _ [_, _] := H
  refine st (v := (B r6)) (rv_pick_t (congrArg B hb5) rfl) (sm (B r6) rfl ?_)
  rcases Bool.eq_false_or_eq_true r6 with hb10 | hb10
  ·replace h := bif_t hb10 h
   refine st_g (v := (Sl Ay Aw Az)) (congrArg some hb10) (rv_move rfl) ?_
   revert h; refine br fun r11 hx12 h => ?_
   have hc13 := c_impl_ValidVector (Ai := Ay) (Aj := Az) hx12
   refine st_call (cx_call hc13 (ent_f hc13.fn rfl) hn0 (H.sel' [1, 0, 1] rfl rfl : Hp S0 σ0 _ ([_] ++ _))) (wanted_yes rfl (by exact (congrArg some hb10))) ?_
   rintro _ σ14 ⟨_, ⟨rfl, rfl⟩, H, -⟩
   replace H : Hp _ _ _ [_, _] := H
   refine st (v := (B r11)) (rv_pick_t (congrArg B hb10) rfl) (sm (B r11) rfl ?_)
   rcases Bool.eq_false_or_eq_true r11 with hb15 | hb15
   ·replace h := bif_t hb15 h
    refine st_g (v := (I Ax)) (congrArg some hb15) (rv_move rfl) (st_g (v := (B (decide (1 ≤ Ax)))) (congrArg some hb15) (rv_geq (a := Ax) (b := 1) rfl rfl) (st (v := (B (decide (1 ≤ Ax)))) (rv_pick_t (congrArg B hb15) rfl) (sm (B (decide (1 ≤ Ax))) rfl ?_)))
    rcases Bool.eq_false_or_eq_true (decide (1 ≤ Ax)) with hb16 | hb16
    ·replace h := bif_t hb16 h
     refine st_g (v := (I Ax)) (congrArg some hb16) (rv_move rfl) (st_g (v := (B (decide (Ax ≤ 16)))) (congrArg some hb16) (rv_leq (a := Ax) (b := 16) rfl rfl) (st (v := (B (decide (Ax ≤ 16)))) (rv_pick_t (congrArg B hb16) rfl) (sa (B (decide (Ax ≤ 16))) rfl (w_end (q_then (c_ret ?_))))))
     obtain rfl := sj h
     exact fin_ret (v := (B (decide (Ax ≤ 16)))) (results_ok Tryz.results32 (res_tmp (v := (B (decide (Ax ≤ 16)))) rfl res_nil) rfl) ⟨rfl, rfl⟩ (H.sel' [] rfl rfl)
    ·replace h := bif_f hb16 h
     refine st_skip (congrArg some hb16) (st_skip (congrArg some hb16) (st (v := (B false)) (rv_pick_f (congrArg B hb16) rfl) (sa (B false) rfl (w_end (q_then (c_ret ?_))))))
     obtain rfl := sj h
     exact fin_ret (v := (B false)) (results_ok Tryz.results32 (res_tmp (v := (B false)) rfl res_nil) rfl) ⟨rfl, rfl⟩ (H.sel' [] rfl rfl)
   ·replace h := bif_f hb15 h
    refine st_skip (congrArg some hb15) (st_skip (congrArg some hb15) (st (v := (B false)) (rv_pick_f (congrArg B hb15) rfl) (sm (B false) rfl (st_skip rfl (st_skip rfl (st (v := (B false)) (rv_pick_f rfl rfl) (sa (B false) rfl (w_end (q_then (c_ret ?_))))))))))
    obtain rfl := sj h
    exact fin_ret (v := (B false)) (results_ok Tryz.results32 (res_tmp (v := (B false)) rfl res_nil) rfl) ⟨rfl, rfl⟩ (H.sel' [] rfl rfl)
  ·replace h := bif_f hb10 h
   refine st_skip (congrArg some hb10) (st_skip (congrArg some hb10) (st (v := (B false)) (rv_pick_f (congrArg B hb10) rfl) (sm (B false) rfl (st_skip rfl (st_skip rfl (st (v := (B false)) (rv_pick_f rfl rfl) (sm (B false) rfl (st_skip rfl (st_skip rfl (st (v := (B false)) (rv_pick_f rfl rfl) (sa (B false) rfl ?_)))))))))))
   refine w_end (q_then (c_ret ?_))
   obtain rfl := sj h
   exact fin_ret (v := (B false)) (results_ok Tryz.results32 (res_tmp (v := (B false)) rfl res_nil) rfl) ⟨rfl, rfl⟩ (H.sel' [] rfl rfl)
 ·replace h := bif_f hb5 h
  refine st_skip (congrArg some hb5) (st_skip (congrArg some hb5) (st (v := (B false)) (rv_pick_f (congrArg B hb5) rfl) (sm (B false) rfl (st_skip rfl (st_skip rfl (st (v := (B false)) (rv_pick_f rfl rfl) (sm (B false) rfl (st_skip rfl (st_skip rfl (st (v := (B false)) (rv_pick_f rfl rfl) (sm (B false) rfl ?_)))))))))))
  refine st_skip rfl (st_skip rfl (st (v := (B false)) (rv_pick_f rfl rfl) (sa (B false) rfl (w_end (q_then (c_ret ?_))))))
  obtain rfl := sj h
  exact fin_ret (v := (B false)) (results_ok Tryz.results32 (res_tmp (v := (B false)) rfl res_nil) rfl) ⟨rfl, rfl⟩ (H.sel' [] rfl rfl)

theorem c_math_bits_Len32 {Ao : Int}  {r : Int} (h : M.math_bits_Len32 Ao = some r) :
    Cal2 Tryz.prog 136 [(.int .u32 Ao)] [] (fun n0 v L => v = (I r) ∧ L = []) := by
 refine cal2 (n := 19) Tryz.func136 rfl rfl rfl rfl ?_
 intro S0 σ0 n0 hn0 H
 unfold M.math_bits_Len32 at h
 refine c_seq (rg (sa (I 0) rfl (w_end (q_then (c_seq (c_seq (rg (sm (.int .u32 Ao) rfl (st (v := (B (decide (65536 ≤ Ao)))) (rvk_geq (k := .u32) (a := Ao) (b := 65536) rfl rfl) (w_end (q_then ?_)))))))))))
 obtain ⟨o1, hj, h'⟩ := bind_some h
 clear h
 refine c_cut (fun e a w => e = .normal ∧ ∃ (ρ : Nat → Value) (σ : St), a = fr 19 (updL ρ [(0, (.int .u32 o1.1)), (2, (I o1.2))]) ∧ w = σ.w ∧ Hp S0 σ0 σ []) ?_ ?_
 ·clear h'
  rename _ = some o1 => h
  refine cd_cond (decide (65536 ≤ Ao)) rfl (fun hb2 => ?_) (fun hb2 => ?_)
  ·replace h := bif_t hb2 h
   refine c_seq (rg (sm (.int .u32 Ao) rfl ?_))
   refine st (v := (.int .u32 (gshr .u32 Ao 16))) (rvk_shr (k := .u32) (k' := .u64) (a := Ao) (b := 16) rfl rfl (by decide)) ?_
   refine sa (.int .u32 (gshr .u32 Ao 16)) rfl (w_end (q_then (rg (sa (I 16) rfl (w_end ?_)))))
   obtain rfl := sj h
   exact ⟨rfl, _, σ0, fr_join ⟨rfl, rfl, trivial⟩, rfl, H.sel' [] rfl rfl⟩
  ·replace h := bif_f hb2 h
   refine c_skip ?_
   obtain rfl := sj h
   exact ⟨rfl, _, σ0, fr_join ⟨rfl, rfl, trivial⟩, rfl, H.sel' [] rfl rfl⟩
 ·clear hj
  have h := h'
  clear h' H
  rintro e a w ⟨rfl, ρ, σ3, rfl, rfl, H⟩
  refine q_then (c_seq (c_seq (rg (sm (.int .u32 o1.1) rfl (st (v := (B (decide (256 ≤ o1.1)))) (rvk_geq (k := .u32) (a := o1.1) (b := 256) rfl rfl) (w_end (q_then ?_)))))))
  obtain ⟨o4, hj, h'⟩ := bind_some h
  clear h
  refine c_cut (fun e a w => e = .normal ∧ ∃ (ρ : Nat → Value) (σ : St), a = fr 19 (updL ρ [(0, (.int .u32 o4.1)), (2, (I o4.2))]) ∧ w = σ.w ∧ Hp S0 σ0 σ []) ?_ ?_
  ·clear h'
   rename _ = some o4 => h
   refine cd_cond (decide (256 ≤ o1.1)) rfl (fun hb5 => ?_) (fun hb5 => ?_)
   ·replace h := bif_t hb5 h
    refine c_seq (rg (sm (.int .u32 o1.1) rfl ?_))
    refine st (v := (.int .u32 (gshr .u32 o1.1 8))) (rvk_shr (k := .u32) (k' := .u64) (a := o1.1) (b := 8) rfl rfl (by decide)) ?_
    refine sa (.int .u32 (gshr .u32 o1.1 8)) rfl (w_end (q_then (rg (sm (I o1.2) rfl (st (v := (I (w64 (o1.2 + 8)))) (rv_add (a := o1.2) (b := 8) rfl rfl) (sa (I (w64 (o1.2 + 8))) rfl (w_end ?_)))))))
    obtain rfl := sj h
    exact ⟨rfl, _, σ3, fr_join ⟨rfl, rfl, trivial⟩, rfl, H.sel' [] rfl rfl⟩
   ·replace h := bif_f hb5 h
    refine c_skip ?_
    obtain rfl := sj h
    exact ⟨rfl, _, σ3, fr_join ⟨rfl, rfl, trivial⟩, rfl, H.sel' [] rfl rfl⟩
  ·clear hj
   have h := h'
   clear h' H
   rintro e a w ⟨rfl, ρ, σ6, rfl, rfl, H⟩
   refine q_then (c_seq (rg (sm (I o4.2) rfl (sm (.int .u32 o4.1) rfl (st (v := (.int .u8 (wk .u8 o4.1))) (rvk_conv (k := .u32) (k' := .u8) (a := o4.1) Tryz.underlying165 Tryz.underlying5 rfl) ?_)))))
   revert h; refine br fun x7 hx8 h => ?_
   refine st (v := (.int .u8 x7)) (rv_sidx (bs := [0, 1, 2, 2, 3, 3, 3, 3, 4, 4, 4, 4, 4, 4, 4, 4, 5, 5, 5, 5, 5, 5, 5, 5, 5, 5, 5, 5, 5, 5, 5, 5, 6, 6, 6, 6, 6, 6, 6, 6, 6, 6, 6, 6, 6, 6, 6, 6, 6, 6, 6, 6, 6, 6, 6, 6, 6, 6, 6, 6, 6, 6, 6, 6, 7, 7, 7, 7, 7, 7, 7, 7, 7, 7, 7, 7, 7, 7, 7, 7, 7, 7, 7, 7, 7, 7, 7, 7, 7, 7, 7, 7, 7, 7, 7, 7, 7, 7, 7, 7, 7, 7, 7, 7, 7, 7, 7, 7, 7, 7, 7, 7, 7, 7, 7, 7, 7, 7, 7, 7, 7, 7, 7, 7, 7, 7, 7, 7, 8, 8, 8, 8, 8, 8, 8, 8, 8, 8, 8, 8, 8, 8, 8, 8, 8, 8, 8, 8, 8, 8, 8, 8, 8, 8, 8, 8, 8, 8, 8, 8, 8, 8, 8, 8, 8, 8, 8, 8, 8, 8, 8, 8, 8, 8, 8, 8, 8, 8, 8, 8, 8, 8, 8, 8, 8, 8, 8, 8, 8, 8, 8, 8, 8, 8, 8, 8, 8, 8, 8, 8, 8, 8, 8, 8, 8, 8, 8, 8, 8, 8, 8, 8, 8, 8, 8, 8, 8, 8, 8, 8, 8, 8, 8, 8, 8, 8, 8, 8, 8, 8, 8, 8, 8, 8, 8, 8, 8, 8, 8, 8, 8, 8, 8, 8, 8, 8, 8, 8, 8, 8, 8, 8, 8, 8, 8, 8]) Tryz.underlying9 rfl rfl hx8) (st (v := (I (wk .i64 x7))) (rvk_conv (k := .u8) (k' := .i64) (a := x7) Tryz.underlying5 Tryz.underlying3 rfl) (st (v := (I (w64 (o4.2 + (wk .i64 x7))))) (rv_add (a := o4.2) (b := (wk .i64 x7)) rfl rfl) (sa (I (w64 (o4.2 + (wk .i64 x7)))) rfl (w_end (q_then (c_ret ?_))))))
   obtain rfl := sj h
   exact fin_ret (v := (I (w64 (o4.2 + (wk .i64 x7))))) (results_ok Tryz.results136 (res_tmp (v := (I (w64 (o4.2 + (wk .i64 x7))))) rfl res_nil) rfl) ⟨rfl, rfl⟩ (H.sel' [] rfl rfl)

theorem c_math_bits_Len64 {Ao : Int}  {r : Int} (h : M.math_bits_Len64 Ao = some r) :
    Cal2 Tryz.prog 137 [(.int .u64 Ao)] [] (fun n0 v L => v = (I r) ∧ L = []) := by
 refine cal2 (n := 25) Tryz.func137 rfl rfl rfl rfl ?_
 intro S0 σ0 n0 hn0 H
 unfold M.math_bits_Len64 at h
 refine c_seq (rg (sa (I 0) rfl (w_end (q_then (c_seq (c_seq (rg (sm (.int .u64 Ao) rfl (st (v := (B (decide (4294967296 ≤ Ao)))) (rvk_geq (k := .u64) (a := Ao) (b := 4294967296) rfl rfl) (w_end (q_then ?_)))))))))))
 obtain ⟨o1, hj, h'⟩ := bind_some h
 clear h
 refine c_cut (fun e a w => e = .normal ∧ ∃ (ρ : Nat → Value) (σ : St), a = fr 25 (updL ρ [(0, (.int .u64 o1.1)), (2, (I o1.2))]) ∧ w = σ.w ∧ Hp S0 σ0 σ []) ?_ ?_
 ·clear h'
  rename _ = some o1 => h
  refine cd_cond (decide (4294967296 ≤ Ao)) rfl (fun hb2 => ?_) (fun hb2 => ?_)
  ·replace h := bif_t hb2 h
   refine c_seq (rg (sm (.int .u64 Ao) rfl ?_))
   refine st (v := (.int .u64 (gshr .u64 Ao 32))) (rvk_shr (k := .u64) (k' := .u64) (a := Ao) (b := 32) rfl rfl (by decide)) ?_
   refine sa (.int .u64 (gshr .u64 Ao 32)) rfl (w_end (q_then (rg (sa (I 32) rfl (w_end ?_)))))
   obtain rfl := sj h
   exact ⟨rfl, _, σ0, fr_join ⟨rfl, rfl, trivial⟩, rfl, H.sel' [] rfl rfl⟩
  ·replace h := bif_f hb2 h
   refine c_skip ?_
   obtain rfl := sj h
   exact ⟨rfl, _, σ0, fr_join ⟨rfl, rfl, trivial⟩, rfl, H.sel' [] rfl rfl⟩
 ·clear hj
  have h := h'
  clear h' H
  rintro e a w ⟨rfl, ρ, σ3, rfl, rfl, H⟩
  refine q_then (c_seq (c_seq (rg (sm (.int .u64 o1.1) rfl (st (v := (B (decide (65536 ≤ o1.1)))) (rvk_geq (k := .u64) (a := o1.1) (b := 65536) rfl rfl) (w_end (q_then ?_)))))))
  obtain ⟨o4, hj, h'⟩ := bind_some h
  clear h
  refine c_cut (fun e a w => e = .normal ∧ ∃ (ρ : Nat → Value) (σ : St), a = fr 25 (updL ρ [(0, (.int .u64 o4.1)), (2, (I o4.2))]) ∧ w = σ.w ∧ Hp S0 σ0 σ []) ?_ ?_
  ·clear h'
   rename _ = some o4 => h
   refine cd_cond (decide (65536 ≤ o1.1)) rfl (fun hb5 => ?_) (fun hb5 => ?_)
   ·replace h := bif_t hb5 h
    refine c_seq (rg (sm (.int .u64 o1.1) rfl ?_))
    refine st (v := (.int .u64 (gshr .u64 o1.1 16))) (rvk_shr (k := .u64) (k' := .u64) (a := o1.1) (b := 16) rfl rfl (by decide)) ?_
    refine sa (.int .u64 (gshr .u64 o1.1 16)) rfl (w_end (q_then (rg (sm (I o1.2) rfl (st (v := (I (w64 (o1.2 + 16)))) (rv_add (a := o1.2) (b := 16) rfl rfl) (sa (I (w64 (o1.2 + 16))) rfl (w_end ?_)))))))
    obtain rfl := sj h
    exact ⟨rfl, _, σ3, fr_join ⟨rfl, rfl, trivial⟩, rfl, H.sel' [] rfl rfl⟩
   ·replace h := bif_f hb5 h
    refine c_skip ?_
    obtain rfl := sj h
    exact ⟨rfl, _, σ3, fr_join ⟨rfl, rfl, trivial⟩, rfl, H.sel' [] rfl rfl⟩
  ·clear hj
   have h := h'
   clear h' H
   rintro e a w ⟨rfl, ρ, σ6, rfl, rfl, H⟩
   refine q_then (c_seq (c_seq (rg (sm (.int .u64 o4.1) rfl (st (v := (B (decide (256 ≤ o4.1)))) (rvk_geq (k := .u64) (a := o4.1) (b := 256) rfl rfl) (w_end (q_then ?_)))))))
   obtain ⟨o7, hj, h'⟩ := bind_some h
   clear h
   refine c_cut (fun e a w => e = .normal ∧ ∃ (ρ : Nat → Value) (σ : St), a = fr 25 (updL ρ [(0, (.int .u64 o7.1)), (2, (I o7.2))]) ∧ w = σ.w ∧ Hp S0 σ0 σ []) ?_ ?_
   ·clear h'
    rename _ = some o7 => h
    refine cd_cond (decide (256 ≤ o4.1)) rfl (fun hb8 => ?_) (fun hb8 => ?_)
    ·replace h := bif_t hb8 h
     refine c_seq (rg (sm (.int .u64 o4.1) rfl ?_))
     refine st (v := (.int .u64 (gshr .u64 o4.1 8))) (rvk_shr (k := .u64) (k' := .u64) (a := o4.1) (b := 8) rfl rfl (by decide)) ?_
     refine sa (.int .u64 (gshr .u64 o4.1 8)) rfl (w_end (q_then (rg (sm (I o4.2) rfl (st (v := (I (w64 (o4.2 + 8)))) (rv_add (a := o4.2) (b := 8) rfl rfl) (sa (I (w64 (o4.2 + 8))) rfl (w_end ?_)))))))
     obtain rfl := sj h
     exact ⟨rfl, _, σ6, fr_join ⟨rfl, rfl, trivial⟩, rfl, H.sel' [] rfl rfl⟩
    ·replace h := bif_f hb8 h
     refine c_skip ?_
     obtain rfl := sj h
     exact ⟨rfl, _, σ6, fr_join ⟨rfl, rfl, trivial⟩, rfl, H.sel' [] rfl rfl⟩
   ·clear hj
    have h := h'
    clear h' H
    rintro e a w ⟨rfl, ρ, σ9, rfl, rfl, H⟩
    refine q_then (c_seq (rg (sm (I o7.2) rfl (sm (.int .u64 o7.1) rfl (st (v := (.int .u8 (wk .u8 o7.1))) (rvk_conv (k := .u64) (k' := .u8) (a := o7.1) Tryz.underlying167 Tryz.underlying5 rfl) ?_)))))
    revert h; refine br fun x10 hx11 h => ?_
    refine st (v := (.int .u8 x10)) (rv_sidx (bs := [0, 1, 2, 2, 3, 3, 3, 3, 4, 4, 4, 4, 4, 4, 4, 4, 5, 5, 5, 5, 5, 5, 5, 5, 5, 5, 5, 5, 5, 5, 5, 5, 6, 6, 6, 6, 6, 6, 6, 6, 6, 6, 6, 6, 6, 6, 6, 6, 6, 6, 6, 6, 6, 6, 6, 6, 6, 6, 6, 6, 6, 6, 6, 6, 7, 7, 7, 7, 7, 7, 7, 7, 7, 7, 7, 7, 7, 7, 7, 7, 7, 7, 7, 7, 7, 7, 7, 7, 7, 7, 7, 7, 7, 7, 7, 7, 7, 7, 7, 7, 7, 7, 7, 7, 7, 7, 7, 7, 7, 7, 7, 7, 7, 7, 7, 7, 7, 7, 7, 7, 7, 7, 7, 7, 7, 7, 7, 7, 8, 8, 8, 8, 8, 8, 8, 8, 8, 8, 8, 8, 8, 8, 8, 8, 8, 8, 8, 8, 8, 8, 8, 8, 8, 8, 8, 8, 8, 8, 8, 8, 8, 8, 8, 8, 8, 8, 8, 8, 8, 8, 8, 8, 8, 8, 8, 8, 8, 8, 8, 8, 8, 8, 8, 8, 8, 8, 8, 8, 8, 8, 8, 8, 8, 8, 8, 8, 8, 8, 8, 8, 8, 8, 8, 8, 8, 8, 8, 8, 8, 8, 8, 8, 8, 8, 8, 8, 8, 8, 8, 8, 8, 8, 8, 8, 8, 8, 8, 8, 8, 8, 8, 8, 8, 8, 8, 8, 8, 8, 8, 8, 8, 8, 8, 8, 8, 8, 8, 8, 8, 8, 8, 8, 8, 8, 8, 8]) Tryz.underlying9 rfl rfl hx11) (st (v := (I (wk .i64 x10))) (rvk_conv (k := .u8) (k' := .i64) (a := x10) Tryz.underlying5 Tryz.underlying3 rfl) (st (v := (I (w64 (o7.2 + (wk .i64 x10))))) (rv_add (a := o7.2) (b := (wk .i64 x10)) rfl rfl) (sa (I (w64 (o7.2 + (wk .i64 x10)))) rfl (w_end (q_then (c_ret ?_))))))
    obtain rfl := sj h
    exact fin_ret (v := (I (w64 (o7.2 + (wk .i64 x10))))) (results_ok Tryz.results137 (res_tmp (v := (I (w64 (o7.2 + (wk .i64 x10))))) rfl res_nil) rfl) ⟨rfl, rfl⟩ (H.sel' [] rfl rfl)

theorem c_math_bits_Len {Ao : Int}  {r : Int} (h : M.math_bits_Len Ao = some r) :
    Cal2 Tryz.prog 119 [(.int .u64 Ao)] [] (fun n0 v L => v = (I r) ∧ L = []) := by
 refine cal2 (n := 8) Tryz.func119 rfl rfl rfl rfl ?_
 intro S0 σ0 n0 hn0 H
 unfold M.math_bits_Len at h
 refine c_seq (rg (sa (I 0) rfl (w_end (q_then (c_seq (cd_false rfl ?_))))))
 refine c_skip (q_then (c_seq (rg (sm (.int .u64 Ao) rfl ?_))))
 revert h; refine br fun r1 hx2 h => ?_
 have hc3 := c_math_bits_Len64 hx2
 refine st_call (cx_call hc3 (ent_f hc3.fn rfl) hn0 (H.sel' [] rfl rfl : Hp S0 σ0 _ ([] ++ _))) wn ?_
 rintro _ σ4 ⟨_, ⟨rfl, rfl⟩, H, -⟩
 replace H : Hp _ _ _ [] := H
 refine sa (I r1) rfl (w_end (q_then (c_ret ?_)))
 obtain rfl := sj h
 exact fin_ret (v := (I r1)) (results_ok Tryz.results119 (res_tmp (v := (I r1)) rfl res_nil) rfl) ⟨rfl, rfl⟩ (H.sel' [] rfl rfl)

theorem c_slices_nextPowerOfTwo {Ba : Int}  {r : Int} (h : M.slices_nextPowerOfTwo Ba = some r) :
    Cal2 Tryz.prog 150 [(I Ba)] [] (fun n0 v L => v = (.int .u64 r) ∧ L = []) := by
 refine cal2 (n := 7) Tryz.func150 rfl rfl rfl rfl ?_
 intro S0 σ0 n0 hn0 H
 unfold M.slices_nextPowerOfTwo at h
 refine c_seq (rg (sa (.int .u64 0) rfl (w_end (q_then (c_seq (rg (sm (I Ba) rfl (st (v := (.int .u64 (wk .u64 Ba))) (rvk_conv (k := .i64) (k' := .u64) (a := Ba) Tryz.underlying3 Tryz.underlying149 rfl) ?_))))))))
 revert h; refine br fun r1 hx2 h => ?_
 have hc3 := c_math_bits_Len hx2
 refine st_call (cx_call hc3 (ent_f hc3.fn rfl) hn0 (H.sel' [] rfl rfl : Hp S0 σ0 _ ([] ++ _))) wn ?_
 rintro _ σ4 ⟨_, ⟨rfl, rfl⟩, H, -⟩
 replace H : Hp _ _ _ [] := H
 revert h; refine br fun q5 hx6 h => ?_
 refine st (v := (.int .u64 q5)) (rvk_shlG (k := .u64) (k' := .i64) (a := 1) (b := r1) hx6 rfl rfl) (sa (.int .u64 q5) rfl (w_end (q_then (c_ret ?_))))
 obtain rfl := sj h
 exact fin_ret (v := (.int .u64 q5)) (results_ok Tryz.results150 (res_tmp (v := (.int .u64 q5)) rfl res_nil) rfl) ⟨rfl, rfl⟩ (H.sel' [] rfl rfl)

theorem c_slices_xorshift_Next {Bb : Int} {Bc Bd Be : Nat} {Bf Bg : List Value} {r : Int × Int} (h : M.slices_xorshift_Next Bb = some r) :
    Cal2 Tryz.prog 151 [(pt Bd Be)] [Ch.bx Bc Bd Be [(.int .u64 Bb)] Bf Bg] (fun n0 v L => v = (.int .u64 r.1) ∧ L = [Ch.bx Bc Bd Be [(.int .u64 r.2)] Bf Bg]) := by
 refine cal2 (n := 33) Tryz.func151 rfl rfl rfl rfl ?_
 intro S0 σ0 n0 hn0 H
 unfold M.slices_xorshift_Next at h
 refine c_seq (rg (sa (.int .u64 0) rfl (w_end (q_then (c_seq ?_)))))
 refine rgP (σ := σ0) 7 (by kernel_rfl) (by kernel_rfl) (by kernel_rfl) ?_
 refine sq (v := (pt Bd Be)) (rv_move rfl) (sq (v := (pt Bd Be)) (rv_nilCheck rfl) ?_)
 have hc1 := H.cell (u := (.int .u64 Bb)) (o' := Be) 0 0 rfl rfl rfl
 refine sq (v := (.int .u64 Bb)) (rv_load1 Tryz.underlying176 rfl rfl hc1) (sq (v := (pt Bd Be)) (rv_move rfl) (sq (v := (pt Bd Be)) (rv_nilCheck rfl) ?_))
 have hc2 := H.cell (u := (.int .u64 Bb)) (o' := Be) 0 0 rfl rfl rfl
 refine sq (v := (.int .u64 Bb)) (rv_load1 Tryz.underlying176 rfl rfl hc2) ?_
 refine sq (v := (.int .u64 (gshl .u64 Bb 13))) (rvk_shl (k := .u64) (k' := .u64) (a := Bb) (b := 13) rfl rfl (by decide)) ?_
 refine sq_end ?_
 intro σ3 hm4
 replace H := H.grow (hm4.mono fun _ h => h); clear hm4
 refine st (v := (.int .u64 (gxork .u64 Bb (gshl .u64 Bb 13)))) (rvk_xor (k := .u64) (a := Bb) (b := (gshl .u64 Bb 13)) rfl rfl) (st (v := (pt Bd Be)) (rv_nilCheck rfl) ?_)
 refine st_exS (ex_store_box (k := 0) (cs := [(.int .u64 Bb)]) (vs := [(.int .u64 (gxork .u64 Bb (gshl .u64 Bb 13)))]) (cs' := [(.int .u64 (gxork .u64 Bb (gshl .u64 Bb 13)))]) H (i := 0) rfl ti176 rfl rfl rfl rfl rfl (Nat.le_of_ble_eq_true rfl) (by simp [plain]) rfl) wn ?_
 rintro σ5 ⟨H, -⟩
 refine w_end (q_then (c_seq ?_))
 refine rgP (σ := σ5) 7 (by kernel_rfl) (by kernel_rfl) (by kernel_rfl) ?_
 refine sq (v := (pt Bd Be)) (rv_move rfl) (sq (v := (pt Bd Be)) (rv_nilCheck rfl) ?_)
 have hc6 := H.cell (u := (.int .u64 (gxork .u64 Bb (gshl .u64 Bb 13)))) (o' := Be) 0 0 rfl rfl rfl
 refine sq (v := (.int .u64 (gxork .u64 Bb (gshl .u64 Bb 13)))) (rv_load1 Tryz.underlying176 rfl rfl hc6) (sq (v := (pt Bd Be)) (rv_move rfl) (sq (v := (pt Bd Be)) (rv_nilCheck rfl) ?_))
 have hc7 := H.cell (u := (.int .u64 (gxork .u64 Bb (gshl .u64 Bb 13)))) (o' := Be) 0 0 rfl rfl rfl
 refine sq (v := (.int .u64 (gxork .u64 Bb (gshl .u64 Bb 13)))) (rv_load1 Tryz.underlying176 rfl rfl hc7) ?_
 refine sq (v := (.int .u64 (gshr .u64 (gxork .u64 Bb (gshl .u64 Bb 13)) 7))) (rvk_shr (k := .u64) (k' := .u64) (a := (gxork .u64 Bb (gshl .u64 Bb 13))) (b := 7) rfl rfl (by decide)) ?_
 refine sq_end ?_
 intro σ8 hm9
 replace H := H.grow (hm9.mono fun _ h => h); clear hm9
 refine st (v := (.int .u64 (gxork .u64 (gxork .u64 Bb (gshl .u64 Bb 13)) (gshr .u64 (gxork .u64 Bb (gshl .u64 Bb 13)) 7)))) (rvk_xor (k := .u64) (a := (gxork .u64 Bb (gshl .u64 Bb 13))) (b := (gshr .u64 (gxork .u64 Bb (gshl .u64 Bb 13)) 7)) rfl rfl) (st (v := (pt Bd Be)) (rv_nilCheck rfl) ?_)
 refine st_exS (ex_store_box (k := 0) (cs := [(.int .u64 (gxork .u64 Bb (gshl .u64 Bb 13)))]) (vs := [(.int .u64 (gxork .u64 (gxork .u64 Bb (gshl .u64 Bb 13)) (gshr .u64 (gxork .u64 Bb (gshl .u64 Bb 13)) 7)))]) (cs' := [(.int .u64 (gxork .u64 (gxork .u64 Bb (gshl .u64 Bb 13)) (gshr .u64 (gxork .u64 Bb (gshl .u64 Bb 13)) 7)))]) H (i := 0) rfl ti176 rfl rfl rfl rfl rfl (Nat.le_of_ble_eq_true rfl) (by simp [plain]) rfl) wn ?_
 rintro σ10 ⟨H, -⟩
 refine w_end (q_then (c_seq ?_))
 refine rgP (σ := σ10) 7 (by kernel_rfl) (by kernel_rfl) (by kernel_rfl) ?_
 refine sq (v := (pt Bd Be)) (rv_move rfl) (sq (v := (pt Bd Be)) (rv_nilCheck rfl) ?_)
 have hc11 := H.cell (u := (.int .u64 (gxork .u64 (gxork .u64 Bb (gshl .u64 Bb 13)) (gshr .u64 (gxork .u64 Bb (gshl .u64 Bb 13)) 7)))) (o' := Be) 0 0 rfl rfl rfl
 refine sq (v := (.int .u64 (gxork .u64 (gxork .u64 Bb (gshl .u64 Bb 13)) (gshr .u64 (gxork .u64 Bb (gshl .u64 Bb 13)) 7)))) (rv_load1 Tryz.underlying176 rfl rfl hc11) (sq (v := (pt Bd Be)) (rv_move rfl) (sq (v := (pt Bd Be)) (rv_nilCheck rfl) ?_))
 have hc12 := H.cell (u := (.int .u64 (gxork .u64 (gxork .u64 Bb (gshl .u64 Bb 13)) (gshr .u64 (gxork .u64 Bb (gshl .u64 Bb 13)) 7)))) (o' := Be) 0 0 rfl rfl rfl
 refine sq (v := (.int .u64 (gxork .u64 (gxork .u64 Bb (gshl .u64 Bb 13)) (gshr .u64 (gxork .u64 Bb (gshl .u64 Bb 13)) 7)))) (rv_load1 Tryz.underlying176 rfl rfl hc12) ?_
 refine sq (v := (.int .u64 (gshl .u64 (gxork .u64 (gxork .u64 Bb (gshl .u64 Bb 13)) (gshr .u64 (gxork .u64 Bb (gshl .u64 Bb 13)) 7)) 17))) (rvk_shl (k := .u64) (k' := .u64) (a := (gxork .u64 (gxork .u64 Bb (gshl .u64 Bb 13)) (gshr .u64 (gxork .u64 Bb (gshl .u64 Bb 13)) 7))) (b := 17) rfl rfl (by decide)) ?_
 refine sq_end ?_
 intro σ13 hm14
 replace H := H.grow (hm14.mono fun _ h => h); clear hm14
 refine st (v := (.int .u64 (gxork .u64 (gxork .u64 (gxork .u64 Bb (gshl .u64 Bb 13)) (gshr .u64 (gxork .u64 Bb (gshl .u64 Bb 13)) 7)) (gshl .u64 (gxork .u64 (gxork .u64 Bb (gshl .u64 Bb 13)) (gshr .u64 (gxork .u64 Bb (gshl .u64 Bb 13)) 7)) 17)))) (rvk_xor (k := .u64) (a := (gxork .u64 (gxork .u64 Bb (gshl .u64 Bb 13)) (gshr .u64 (gxork .u64 Bb (gshl .u64 Bb 13)) 7))) (b := (gshl .u64 (gxork .u64 (gxork .u64 Bb (gshl .u64 Bb 13)) (gshr .u64 (gxork .u64 Bb (gshl .u64 Bb 13)) 7)) 17)) rfl rfl) (st (v := (pt Bd Be)) (rv_nilCheck rfl) ?_)
 refine st_exS (ex_store_box (k := 0) (cs := [(.int .u64 (gxork .u64 (gxork .u64 Bb (gshl .u64 Bb 13)) (gshr .u64 (gxork .u64 Bb (gshl .u64 Bb 13)) 7)))]) (vs := [(.int .u64 (gxork .u64 (gxork .u64 (gxork .u64 Bb (gshl .u64 Bb 13)) (gshr .u64 (gxork .u64 Bb (gshl .u64 Bb 13)) 7)) (gshl .u64 (gxork .u64 (gxork .u64 Bb (gshl .u64 Bb 13)) (gshr .u64 (gxork .u64 Bb (gshl .u64 Bb 13)) 7)) 17)))]) (cs' := [(.int .u64 (gxork .u64 (gxork .u64 (gxork .u64 Bb (gshl .u64 Bb 13)) (gshr .u64 (gxork .u64 Bb (gshl .u64 Bb 13)) 7)) (gshl .u64 (gxork .u64 (gxork .u64 Bb (gshl .u64 Bb 13)) (gshr .u64 (gxork .u64 Bb (gshl .u64 Bb 13)) 7)) 17)))]) H (i := 0) rfl ti176 rfl rfl rfl rfl rfl (Nat.le_of_ble_eq_true rfl) (by simp [plain]) rfl) wn ?_
 rintro σ15 ⟨H, -⟩
 refine w_end (q_then (c_seq (rg (sm (pt Bd Be) rfl (st (v := (pt Bd Be)) (rv_nilCheck rfl) ?_)))))
 have hc16 := H.cell (u := (.int .u64 (gxork .u64 (gxork .u64 (gxork .u64 Bb (gshl .u64 Bb 13)) (gshr .u64 (gxork .u64 Bb (gshl .u64 Bb 13)) 7)) (gshl .u64 (gxork .u64 (gxork .u64 Bb (gshl .u64 Bb 13)) (gshr .u64 (gxork .u64 Bb (gshl .u64 Bb 13)) 7)) 17)))) (o' := Be) 0 0 rfl rfl rfl
 refine st (v := (.int .u64 (gxork .u64 (gxork .u64 (gxork .u64 Bb (gshl .u64 Bb 13)) (gshr .u64 (gxork .u64 Bb (gshl .u64 Bb 13)) 7)) (gshl .u64 (gxork .u64 (gxork .u64 Bb (gshl .u64 Bb 13)) (gshr .u64 (gxork .u64 Bb (gshl .u64 Bb 13)) 7)) 17)))) (rv_load1 Tryz.underlying176 rfl rfl hc16) (sa (.int .u64 (gxork .u64 (gxork .u64 (gxork .u64 Bb (gshl .u64 Bb 13)) (gshr .u64 (gxork .u64 Bb (gshl .u64 Bb 13)) 7)) (gshl .u64 (gxork .u64 (gxork .u64 Bb (gshl .u64 Bb 13)) (gshr .u64 (gxork .u64 Bb (gshl .u64 Bb 13)) 7)) 17))) rfl (w_end (q_then (c_ret ?_))))
 obtain rfl := sj h
 exact fin_ret (v := (.int .u64 (gxork .u64 (gxork .u64 (gxork .u64 Bb (gshl .u64 Bb 13)) (gshr .u64 (gxork .u64 Bb (gshl .u64 Bb 13)) 7)) (gshl .u64 (gxork .u64 (gxork .u64 Bb (gshl .u64 Bb 13)) (gshr .u64 (gxork .u64 Bb (gshl .u64 Bb 13)) 7)) 17)))) (results_ok Tryz.results151 (res_tmp (v := (.int .u64 (gxork .u64 (gxork .u64 (gxork .u64 Bb (gshl .u64 Bb 13)) (gshr .u64 (gxork .u64 Bb (gshl .u64 Bb 13)) 7)) (gshl .u64 (gxork .u64 (gxork .u64 Bb (gshl .u64 Bb 13)) (gshr .u64 (gxork .u64 Bb (gshl .u64 Bb 13)) 7)) 17)))) rfl res_nil) rfl) ⟨rfl, rfl⟩ (H.sel' [0] rfl rfl)

theorem c_slices_Values_impl_hitHeap_impl_Hit {Bh : List (Int × Int)} {Bi : Option Addr} {Bj : Nat} {r : Unit} (h : M.slices_Values_impl_hitHeap_impl_Hit Bh = some r) :
    Cal2 Tryz.prog 71 [(Sl Bi Bh Bj)] [Ch.ro 0 (Sl Bi Bh Bj) Bh] (fun n0 v L => ∃ (bz1 : Nat), v = (.func (.func 98) #[] #[(pt bz1 0)]) ∧ L = [Ch.bx n0 bz1 0 [(Sl Bi Bh Bj)] [] []]) := by
 refine cal2 (n := 4) Tryz.func71 rfl rfl rfl rfl ?_
 intro S0 σ0 n0 hn0 H
 unfold M.slices_Values_impl_hitHeap_impl_Hit at h
 refine c_seq (rg (st_ex (ex_box (cs := [(Sl Bi Bh Bj)]) H hn0 rfl rfl) wn ?_))
 rintro _ σ2 ⟨b1, rfl, H, -⟩
 refine sa (.nilFunc) rfl (w_end (q_then (c_seq (rg (st (v := (.func (.func 98) #[] #[(pt b1 0)])) (rv_makeFunc (vs := [(pt b1 0)]) rfl) (sa (.func (.func 98) #[] #[(pt b1 0)]) rfl (w_end (q_then (c_ret ?_)))))))))
 obtain rfl := sj h
 exact fin_ret (v := (.func (.func 98) #[] #[(pt b1 0)])) (results_ok Tryz.results71 (res_tmp (v := (.func (.func 98) #[] #[(pt b1 0)])) rfl res_nil) rfl) ⟨b1, rfl, rfl⟩ (H.sel' [0] rfl rfl)

theorem c_cmp_Or_int {Bk : List Int} {Bl : Option Addr} {Bm : Nat} {r : Int} (h : M.cmp_Or_int Bk = some r) :
    Cal2 Tryz.prog 99 [(Sl Bl Bk Bm)] [Ch.ro 0 (Sl Bl Bk Bm) Bk] (fun n0 v L => v = (I r) ∧ L = []) := by
 refine cal2 (n := 18) Tryz.func99 rfl rfl rfl rfl ?_
 intro S0 σ0 n0 hn0 H
 unfold M.cmp_Or_int at h
 refine c_seq (rg (sa (I 0) rfl (w_end (q_then (c_seq (rg (sa (I 0) rfl (w_end (q_then (c_seq (c_seq ?_)))))))))))
 refine rg (sm (Sl Bl Bk Bm) rfl (st (v := (I (Bk.length : Int))) (rv_len Tryz.underlying24 rfl) (sm (I 0) rfl (w_end (q_then ?_)))))
 obtain ⟨o1, hj, h'⟩ := bind_some h
 clear h
 refine c_cut (fun e a w => (∃ t, o1 = (.inl t) ∧ e = .normal ∧ ∃ (ρ : Nat → Value) (σ : St), a = fr 18 (updL ρ [(3, (I 0))]) ∧ w = σ.w ∧ Hp S0 σ0 σ []) ∨ (∃ t, o1 = (.inr t) ∧ e = .ret ∧ ∃ (ρ : Nat → Value) (σ : St), a = fr 18 (updL ρ [(2, (I t))]) ∧ w = σ.w ∧ Hp S0 σ0 σ [])) ?_ ?_
 ·clear h'
  rename _ = some o1 => h
  refine c_blk (wp_loopM _ h (fun s2 a w => ∃ (ρ : Nat → Value) (σ : St), a = fr 18 (updL ρ [(3, (I 0)), (6, (Sl Bl Bk Bm)), (7, (I (Bk.length : Int))), (8, (I s2))]) ∧ w = σ.w ∧ Hp S0 σ0 σ [Ch.ro 0 (Sl Bl Bk Bm) Bk]) ⟨_, σ0, fr_join ⟨rfl, rfl, rfl, rfl, trivial⟩, rfl, H.sel' [0] rfl rfl⟩ ?_)
  clear h H
  rintro s2 a w o ⟨ρ, σ3, rfl, rfl, H⟩ h hres
  refine c_seq (rg (st (v := (B (decide (s2 < (Bk.length : Int))))) (rv_lss (a := s2) (b := (Bk.length : Int)) rfl rfl) (w_end (q_then (c_seq ?_)))))
  refine cd_cond (decide (s2 < (Bk.length : Int))) rfl (fun hb4 => ?_) (fun hb4 => ?_)
  ·replace h := bif_t hb4 h
   refine c_skip (q_then (c_seq (c_blk (c_seq (rg ?_)))))
   revert h; refine br fun x5 hx6 h => ?_
   obtain ⟨b8, o9, hi7, -⟩ := (H.ro 0 rfl).ix hx6
   refine st (v := (pt b8 o9)) (rv_ix Tryz.underlying24 ti3 rfl rfl hi7) ?_
   have hc10 := ((H.ro 0 rfl).at hx6 hi7).int
   refine st (v := (I x5)) (rv_load1 Tryz.underlying3 rfl rfl hc10) (sa (I x5) rfl (w_end (q_then (c_seq (rg (sm (I x5) rfl (sm (I 0) rfl (st (v := (B (x5 != 0))) (rv_neq (a := x5) (b := 0) rfl rfl) (w_end (q_then ?_))))))))))
   refine cd_cond (x5 != 0) rfl (fun hb11 => ?_) (fun hb11 => ?_)
   ·replace h := bif_t hb11 h
    refine c_seq (rg (sm (I x5) rfl (sa (I x5) rfl (w_end (q_then (c_ret (q_blk_r (q_then_r (q_then_r (q_blk_r ?_))))))))))
    obtain rfl := sj h
    obtain rfl := hres _ rfl
    exact .inr (⟨_, rfl, rfl, _, σ3, fr_join ⟨rfl, trivial⟩, rfl, H.sel' [] rfl rfl⟩)
   ·replace h := bif_f hb11 h
    refine c_skip (q_blk (q_then (rg (st (v := (I (w64 (s2 + 1)))) (rv_add (a := s2) (b := 1) rfl rfl) (sm (I (w64 (s2 + 1))) rfl (w_end (q_then ?_)))))))
    obtain rfl := sj h
    exact ⟨_, rfl, _, σ3, fr_join ⟨rfl, rfl, rfl, rfl, trivial⟩, rfl, H.sel' [0] rfl rfl⟩
  ·replace h := bif_f hb4 h
   refine c_exit (q_then_x (q_then_x (q_blk_hit ?_)))
   obtain rfl := sj h
   obtain rfl := hres _ rfl
   exact .inl ⟨_, rfl, rfl, _, σ3, fr_join ⟨rfl, trivial⟩, rfl, H.sel' [] rfl rfl⟩
 ·clear hj
  have h := h'
  clear h' H
  rintro e a w (⟨t12, rfl, rfl, ρ, σ13, rfl, rfl, H⟩ | ⟨t14, rfl, rfl, ρ, σ15, rfl, rfl, H⟩)
  ·replace h := selim_l h
   refine q_then (c_seq (rg (sm (I 0) rfl (sa (I 0) rfl (w_end (q_then (c_ret ?_)))))))
   obtain rfl := sj h
   exact fin_ret (v := (I 0)) (results_ok Tryz.results99 (res_tmp (v := (I 0)) rfl res_nil) rfl) ⟨rfl, rfl⟩ (H.sel' [] rfl rfl)
  ·replace h := selim_r h
   refine q_then_r ?_
   obtain rfl := sj h
   exact fin_ret (v := (I t14)) (results_ok Tryz.results99 (res_tmp (v := (I t14)) rfl res_nil) rfl) ⟨rfl, rfl⟩ (H.sel' [] rfl rfl)

theorem c_cmp_isNaN_int {Ao : Int}  {r : Bool} (h : M.cmp_isNaN_int Ao = some r) :
    Cal2 Tryz.prog 122 [(I Ao)] [] (fun n0 v L => v = (B r) ∧ L = []) := by
 refine cal2 (n := 6) Tryz.func122 rfl rfl rfl rfl ?_
 intro S0 σ0 n0 hn0 H
 unfold M.cmp_isNaN_int at h
 refine c_seq (rg (sa (B false) rfl (w_end (q_then (c_seq (rg (sm (I Ao) rfl (sm (I Ao) rfl (st (v := (B (Ao != Ao))) (rv_neq (a := Ao) (b := Ao) rfl rfl) (sa (B (Ao != Ao)) rfl (w_end ?_)))))))))))
 refine q_then (c_ret ?_)
 obtain rfl := sj h
 exact fin_ret (v := (B (Ao != Ao))) (results_ok Tryz.results122 (res_tmp (v := (B (Ao != Ao))) rfl res_nil) rfl) ⟨rfl, rfl⟩ (H.sel' [] rfl rfl)

theorem c_cmp_Compare_int {Ao : Int} {Bn : Int}  {r : Int} (h : M.cmp_Compare_int Ao Bn = some r) :
    Cal2 Tryz.prog 100 [(I Ao), (I Bn)] [] (fun n0 v L => v = (I r) ∧ L = []) := by
 refine cal2 (n := 20) Tryz.func100 rfl rfl rfl rfl ?_
 intro S0 σ0 n0 hn0 H
 unfold M.cmp_Compare_int at h
 refine c_seq (rg (sa (I 0) rfl (w_end (q_then (c_seq (rg (sm (I Ao) rfl ?_)))))))
 revert h; refine br fun r1 hx2 h => ?_
 have hc3 := c_cmp_isNaN_int hx2
 refine st_call (cx_call hc3 (ent_f hc3.fn rfl) hn0 (H.sel' [] rfl rfl : Hp S0 σ0 _ ([] ++ _))) wn ?_
 rintro _ σ4 ⟨_, ⟨rfl, rfl⟩, H, -⟩
 replace H : Hp _ _ _ [] := H
 refine sa (B r1) rfl (w_end (q_then (c_seq (rg (sm (I Bn) rfl ?_)))))
 revert h; refine br fun r5 hx6 h => ?_
 have hc7 := c_cmp_isNaN_int hx6
 refine st_call (cx_call hc7 (ent_f hc7.fn rfl) hn0 (H.sel' [] rfl rfl : Hp S0 σ0 _ ([] ++ _))) wn ?_
 rintro _ σ8 ⟨_, ⟨rfl, rfl⟩, H, -⟩
 replace H : Hp _ _ _ [] := H
 refine sa (B r5) rfl (w_end (q_then (c_seq (c_seq (rg (sm (B r1) rfl (w_end (q_then ?_))))))))
 refine cd_cond r1 rfl (fun hb9 => ?_) (fun hb9 => ?_)
 ·replace h := bif_t hb9 h
  refine c_seq (c_seq (rg (sm (B r5) rfl (w_end (q_then ?_)))))
  refine cd_cond r5 rfl (fun hb10 => ?_) (fun hb10 => ?_)
  ·replace h := bif_t hb10 h
   refine c_seq (rg (sa (I 0) rfl (w_end (q_then (c_ret (q_then_r (q_then_r ?_)))))))
   obtain rfl := sj h
   exact fin_ret (v := (I 0)) (results_ok Tryz.results100 (res_tmp (v := (I 0)) rfl res_nil) rfl) ⟨rfl, rfl⟩ (H.sel' [] rfl rfl)
  ·replace h := bif_f hb10 h
   refine c_skip (q_then (c_seq (rg (sa (I (-1)) rfl (w_end (q_then (c_ret (q_then_r ?_))))))))
   obtain rfl := sj h
   exact fin_ret (v := (I (-1))) (results_ok Tryz.results100 (res_tmp (v := (I (-1))) rfl res_nil) rfl) ⟨rfl, rfl⟩ (H.sel' [] rfl rfl)
 ·replace h := bif_f hb9 h
  refine c_skip (q_then (c_seq (c_seq (rg (sm (B r5) rfl (w_end (q_then ?_)))))))
  refine cd_cond r5 rfl (fun hb11 => ?_) (fun hb11 => ?_)
  ·replace h := bif_t hb11 h
   refine c_seq (rg (sa (I 1) rfl (w_end (q_then (c_ret (q_then_r ?_))))))
   obtain rfl := sj h
   exact fin_ret (v := (I 1)) (results_ok Tryz.results100 (res_tmp (v := (I 1)) rfl res_nil) rfl) ⟨rfl, rfl⟩ (H.sel' [] rfl rfl)
  ·replace h := bif_f hb11 h
   refine c_skip (q_then (c_seq (c_seq (rg (sm (I Ao) rfl (sm (I Bn) rfl (st (v := (B (decide (Ao < Bn)))) (rv_lss (a := Ao) (b := Bn) rfl rfl) (w_end (q_then ?_)))))))))
   refine cd_cond (decide (Ao < Bn)) rfl (fun hb12 => ?_) (fun hb12 => ?_)
   ·replace h := bif_t hb12 h
    refine c_seq (rg (sa (I (-1)) rfl (w_end (q_then (c_ret (q_then_r ?_))))))
    obtain rfl := sj h
    exact fin_ret (v := (I (-1))) (results_ok Tryz.results100 (res_tmp (v := (I (-1))) rfl res_nil) rfl) ⟨rfl, rfl⟩ (H.sel' [] rfl rfl)
   ·replace h := bif_f hb12 h
    refine c_skip (q_then (c_seq (c_seq (rg (sm (I Ao) rfl (sm (I Bn) rfl (st (v := (B (decide (Bn < Ao)))) (rv_gtr (a := Ao) (b := Bn) rfl rfl) (w_end (q_then ?_)))))))))
    refine cd_cond (decide (Bn < Ao)) rfl (fun hb13 => ?_) (fun hb13 => ?_)
    ·replace h := bif_t hb13 h
     refine c_seq (rg (sa (I 1) rfl (w_end (q_then (c_ret (q_then_r ?_))))))
     obtain rfl := sj h
     exact fin_ret (v := (I 1)) (results_ok Tryz.results100 (res_tmp (v := (I 1)) rfl res_nil) rfl) ⟨rfl, rfl⟩ (H.sel' [] rfl rfl)
    ·replace h := bif_f hb13 h
     refine c_skip (q_then (c_seq (rg (sa (I 0) rfl (w_end (q_then (c_ret ?_)))))))
     obtain rfl := sj h
     exact fin_ret (v := (I 0)) (results_ok Tryz.results100 (res_tmp (v := (I 0)) rfl res_nil) rfl) ⟨rfl, rfl⟩ (H.sel' [] rfl rfl)

theorem c_impl_compareHits {Aa : Int × Int} {Ac : Int × Int}  {r : Int} (h : M.impl_compareHits Aa Ac = some r) :
    Cal2 Tryz.prog 72 [(.agg #[(I Aa.1), (I Aa.2)]), (.agg #[(I Ac.1), (I Ac.2)])] [] (fun n0 v L => v = (I r) ∧ L = []) := by
 refine cal2 (n := 17) Tryz.func72 rfl rfl rfl rfl ?_
 intro S0 σ0 n0 hn0 H
 unfold M.impl_compareHits at h
 refine c_seq (rg (st_ex (ex_box (cs := [(I Aa.1), (I Aa.2)]) H hn0 rfl rfl) wn ?_))
 rintro _ σ2 ⟨b1, rfl, H, -⟩
 refine st_ex (ex_box (cs := [(I Ac.1), (I Ac.2)]) H hn0 rfl rfl) wn ?_
 rintro _ σ4 ⟨b3, rfl, H, -⟩
 refine sa (I 0) rfl (w_end (q_then (c_seq ?_)))
 have hc5 := H.cell (u := (I Aa.2)) (o' := 1) 1 1 rfl rfl rfl
 have hc6 := H.cell (u := (I Ac.2)) (o' := 1) 0 1 rfl rfl rfl
 revert h; refine br fun r7 hx8 h => ?_
 have hc9 := c_cmp_Compare_int hx8
 have hc10 := H.cell (u := (I Aa.1)) (o' := 0) 1 0 rfl rfl rfl
 have hc11 := H.cell (u := (I Ac.1)) (o' := 0) 0 0 rfl rfl rfl
 have Hs := H
 refine rg2 (σ := σ4) (Nm := Unit) 9 [4] [[false], [true]] [[(0, 0)], [(0, 0)], [(0, 0)], [(0, 0)], [(0, 1)], [(0, 0), (1, 1)], [(0, 0), (1, 1)], [(0, 0), (1, 1)], [(0, 0), (1, 1)]] 1 [fun _ => fun σm => Hp S0 σ0 σm [Ch.bx n0 b3 0 [(I Ac.1), (I Ac.2)] [] [], Ch.bx n0 b1 0 [(I Aa.1), (I Aa.2)] [] []] ∧ Md (cov []) σ4 σm, fun _ => fun σm => Hp S0 σ0 σm [Ch.bx n0 b3 0 [(I Ac.1), (I Ac.2)] [] [], Ch.bx n0 b1 0 [(I Aa.1), (I Aa.2)] [] []] ∧ Md (cov []) σ4 σm] [fun _ => (pt b1 1), fun _ => (I Aa.2), fun _ => (pt b3 1), fun _ => (I Ac.2), fun _ => (I r7), fun _ => (pt b1 0), fun _ => (I Aa.1), fun _ => (pt b3 0), fun _ => (I Ac.1)] () (by kernel_rfl) (by kernel_rfl) ?_ ?_ ?_
 ·intro σm m0
  exact ⟨H.grow (m0.mono fun _ h => h.elim), m0⟩
 ·refine ac rfl (by
    intro k _nm ρ σm hJ hoff hdep
    have e2 := look_off (N := 17) (hoff 2 rfl) rfl
    exact dp_v (v := (pt b1 1)) wn (rv_fieldAddr (off := 1) (ft := 3) Tryz.underlying38 rfl ti3 rfl e2) rfl hJ) ?_
  refine all_cons (by
    refine ⟨?_, ?_⟩
    ·intro _nm ρ σm hJ hoff hdep
     have e5 := hdep 0 rfl rfl 5 rfl
     obtain ⟨H, m⟩ := id hJ
     have hc5 := H.cell (u := (I Aa.2)) (o' := 1) 1 1 rfl rfl rfl
     exact dp_v (v := (I Aa.2)) wn (rv_load1 Tryz.underlying3 rfl e5 hc5) rfl hJ
    trivial) ?_
  refine ac rfl (by
    intro k _nm ρ σm hJ hoff hdep
    have e3 := look_off (N := 17) (hoff 3 rfl) rfl
    exact dp_v (v := (pt b3 1)) wn (rv_fieldAddr (off := 1) (ft := 3) Tryz.underlying38 rfl ti3 rfl e3) rfl hJ) ?_
  refine all_cons (by
    refine ⟨?_, ?_⟩
    ·intro _nm ρ σm hJ hoff hdep
     have e7 := hdep 2 rfl rfl 7 rfl
     obtain ⟨H, m⟩ := id hJ
     have hc6 := H.cell (u := (I Ac.2)) (o' := 1) 0 1 rfl rfl rfl
     exact dp_v (v := (I Ac.2)) wn (rv_load1 Tryz.underlying3 rfl e7 hc6) rfl hJ
    trivial) ?_
  refine all_cons (by
    refine ⟨?_, ?_⟩
    ·intro _nm ρ σm hJ hoff hdep
     have e6 : look 17 ρ 6 = (I Aa.2) := hdep 1 rfl rfl 6 rfl
     have e8 : look 17 ρ 8 = (I Ac.2) := hdep 3 rfl rfl 8 rfl
     obtain ⟨H, m⟩ := id hJ
     refine dp_cx wn (cx_call hc9 (ent_f hc9.fn (by show [look 17 ρ 6, look 17 ρ 8] = _; rw [e6, e8])) hn0 (H.sel' [0, 1] rfl rfl : Hp S0 σ0 _ ([] ++ _))) ?_
     rintro _ σq ⟨_, ⟨rfl, rfl⟩, H2, m2⟩
     exact ⟨_, (), rfl, rfl, ⟨H2.sel' [0, 1] rfl rfl, m.comp0 m2⟩, stab [0, 1, 2, 3, 5, 6, 7, 8] (by kernel_rfl) ⟨rfl, rfl, rfl, rfl, rfl, rfl, rfl, rfl, trivial⟩⟩
    trivial) ?_
  refine ac rfl (by
    intro k _nm ρ σm hJ hoff hdep
    have e2 := look_off (N := 17) (hoff 2 rfl) rfl
    exact dp_v (v := (pt b1 0)) wn (rv_fieldAddr (off := 0) (ft := 3) Tryz.underlying38 rfl ti3 rfl e2) rfl hJ) ?_
  refine all_cons (by
    refine ⟨?_, ?_⟩
    ·intro _nm ρ σm hJ hoff hdep
     have e10 := hdep 5 rfl rfl 10 rfl
     obtain ⟨H, m⟩ := id hJ
     have hc10 := H.cell (u := (I Aa.1)) (o' := 0) 1 0 rfl rfl rfl
     exact dp_v (v := (I Aa.1)) wn (rv_load1 Tryz.underlying3 rfl e10 hc10) rfl hJ
    refine ⟨?_, ?_⟩
    ·intro _nm ρ σm hJ hoff hdep
     have e10 := hdep 5 rfl rfl 10 rfl
     obtain ⟨H, m⟩ := id hJ
     have hc10 := H.cell (u := (I Aa.1)) (o' := 0) 1 0 rfl rfl rfl
     exact dp_v (v := (I Aa.1)) wn (rv_load1 Tryz.underlying3 rfl e10 hc10) rfl hJ
    trivial) ?_
  refine ac rfl (by
    intro k _nm ρ σm hJ hoff hdep
    have e3 := look_off (N := 17) (hoff 3 rfl) rfl
    exact dp_v (v := (pt b3 0)) wn (rv_fieldAddr (off := 0) (ft := 3) Tryz.underlying38 rfl ti3 rfl e3) rfl hJ) ?_
  refine all_cons (by
    refine ⟨?_, ?_⟩
    ·intro _nm ρ σm hJ hoff hdep
     have e12 := hdep 7 rfl rfl 12 rfl
     obtain ⟨H, m⟩ := id hJ
     have hc11 := H.cell (u := (I Ac.1)) (o' := 0) 0 0 rfl rfl rfl
     exact dp_v (v := (I Ac.1)) wn (rv_load1 Tryz.underlying3 rfl e12 hc11) rfl hJ
    refine ⟨?_, ?_⟩
    ·intro _nm ρ σm hJ hoff hdep
     have e12 := hdep 7 rfl rfl 12 rfl
     obtain ⟨H, m⟩ := id hJ
     have hc11 := H.cell (u := (I Ac.1)) (o' := 0) 0 0 rfl rfl rfl
     exact dp_v (v := (I Ac.1)) wn (rv_load1 Tryz.underlying3 rfl e12 hc11) rfl hJ
    trivial) ?_
  exact all_nil
 ·intro _nm ρ σ12 hJ hoff hrel
  have e9 := hrel 4 rfl 9 rfl
  have e11 := hrel 6 rfl 11 rfl
  have e13 := hrel 8 rfl 13 rfl
  obtain ⟨H, -⟩ := (show Hp S0 σ0 σ12 [Ch.bx n0 b3 0 [(I Ac.1), (I Ac.2)] [] [], Ch.bx n0 b1 0 [(I Aa.1), (I Aa.2)] [] []] ∧ Md (cov []) σ4 σ12 from hJ)
  clear hJ Hs
  rw [fr_lookL (L := [(9, (I r7)), (11, (I Aa.1)), (13, (I Ac.1))]) ⟨e9, e11, e13, trivial⟩]
  clear hoff hrel e9 e11 e13
  revert h; refine br fun r13 hx14 h => ?_
  have hc15 := c_cmp_Compare_int hx14
  refine st_call (cx_call hc15 (ent_f hc15.fn rfl) hn0 (H.sel' [0, 1] rfl rfl : Hp S0 σ0 _ ([] ++ _))) wn ?_
  rintro _ σ16 ⟨_, ⟨rfl, rfl⟩, H, -⟩
  replace H : Hp _ _ _ [_, _] := H
  refine st_ex (ex_buildSlice (el := n0) (xs := ([r7, r13] : List Int)) (ps := [(0, (I r7)), (1, (I r13))]) (cs := [(I r7), (I r13)]) H hn0 Tryz.underlying24 ti3 rfl rfl (by kernel_rfl) (.cons (c := [(I r7)]) rfl (.cons (c := [(I r13)]) rfl (.nil))) rfl) wn ?_
  rintro _ σ18 ⟨b17, rfl, H, -⟩
  obtain ⟨σ19, hw20, H, -⟩ := H.pub 0 rfl (Nat.le_refl _)
  rw [← hw20]; clear hw20
  replace H := H.roLow 0 0 rfl (Nat.zero_le _)
  revert h; refine br fun r21 hx22 h => ?_
  have hc23 := c_cmp_Or_int (Bl := (some ⟨b17, 0, none⟩)) (Bm := 2) hx22
  refine st_call (cx_call hc23 (ent_f hc23.fn rfl) hn0 (H.sel' [0, 0, 1, 2, 3] rfl rfl : Hp S0 σ0 _ ([_] ++ _))) wn ?_
  rintro _ σ24 ⟨_, ⟨rfl, rfl⟩, H, -⟩
  replace H : Hp _ _ _ [_, _, _, _] := H
  refine sa (I r21) rfl (w_end (q_then (c_ret ?_)))
  obtain rfl := sj h
  exact fin_ret (v := (I r21)) (results_ok Tryz.results72 (res_tmp (v := (I r21)) rfl res_nil) rfl) ⟨rfl, rfl⟩ (H.sel' [] rfl rfl)

theorem it_slices_AppendSeq_impl_Hit_impl_Hit__slices_Values_impl_hitHeap_impl_Hit_1 {b o c l : Nat} {a : Option Addr} {xs : List (Int × Int)} {J : Nat → St → Prop} (hst : ∀ {i σ σ'}, J i σ → Md (fun _ => False) σ σ' → J i σ')
    (hbx : ∀ {i σ}, J i σ → HCell σ.w.heap b o = some (Sl a xs c) ∧ Rd 0 σ (Sl a xs c) xs) (hn : xs.length ≤ 2147483648)
    (hy : ∀ i, (h : i < xs.length) → ∀ σ, J i σ → YieldAt Fence.wide 0 Tryz.prog l [(.agg #[(I (xs[i]).1), (I (xs[i]).2)])].toArray σ.w fun e W' => e = .returned (.bool true) ∧ ∃ σ', W' = σ'.w ∧ J (i + 1) σ')
    (σ : St) (h0 : J 0 σ) : CallsIn Fence.wide 0 Tryz.prog 98 [.func (.yield l) #[] #[], (pt b o)].toArray σ.w fun e W' => (∃ v, e = .returned v) ∧ ∃ σ', W' = σ'.w ∧ J xs.length σ' := by
  refine enterI (n := 16) Tryz.func98 rfl rfl rfl ?_
  refine wpIn_seq ?_
  obtain ⟨hc, -⟩ := hbx h0
  refine rgI ?_
  refine stI nofun (v := (Sl a xs c)) (rv_load1 Tryz.underlying51 rfl rfl hc) ?_
  refine stI nofun (v := (I (xs.length : Int))) (rv_len Tryz.underlying51 rfl) ?_
  refine stI nofun (v := (I 0)) (rv_move rfl) ?_
  refine endI ?_
  refine q_then (wpIn_block ?_)
  refine wpIn_loop_ghost (fun k a' w' => ∃ i ρ σ, i + k = xs.length ∧ a' = fr 16 (updL ρ [(0, .func (.yield l) #[] #[]), (1, pt b o), (5, Sl a xs c), (6, I (xs.length : Int)), (7, I (i : Int))]) ∧ w' = σ.w ∧ J i σ) xs.length ⟨0, _, σ, by omega, fr_join ⟨rfl, rfl, rfl, rfl, rfl, trivial⟩, rfl, h0⟩ ?_
  clear hc h0
  rintro k _ _ ⟨i, ρ, σ, hik, rfl, rfl, hJ⟩
  refine wpIn_seq ?_
  refine rgI ?_
  refine stI nofun (v := (B (decide ((i : Int) < (xs.length : Int))))) (rv_lss (a := (i : Int)) (b := (xs.length : Int)) rfl rfl) ?_
  refine endI ?_
  refine q_then (wpIn_seq ?_)
  refine cdI_cond (decide ((i : Int) < (xs.length : Int))) rfl (fun hb => ?_) (fun hb => ?_)
  · have hlt : i < xs.length := by have := of_decide_eq_true hb; omega
    refine wpIn_skip ?_
    refine q_then (wpIn_seq ?_)
    refine wpIn_block ?_
    refine wpIn_seq ?_
    refine rgI ?_
    have hg : gidx xs (i : Int) = some xs[i] := gidx_at hlt
    obtain ⟨-, hR⟩ := hbx hJ
    obtain ⟨bx, ox, hi, hat⟩ := hR.ix hg
    obtain ⟨_, ⟨_, _, rfl, rfl, rfl⟩, hl, hcx⟩ := hat.cells
    refine stI nofun (v := (pt bx ox)) (rv_ix Tryz.underlying51 ti38 rfl rfl hi) ?_
    refine stI nofun (v := (.agg #[(I (xs[i]).1), (I (xs[i]).2)])) (rv_load (cs := [(I (xs[i]).1), (I (xs[i]).2)]) Tryz.underlying38 rfl ti38 rfl hl hcx) ?_
    have H : Hp (cov []) σ σ [] := Hp.begin trivial trivial
    refine stI_ex nofun (ex_alloc (lo := 0) H (Nat.zero_le _) ti38 rfl) ?_
    rintro _ σ2 ⟨b4, rfl, H, -⟩
    refine stI_exS nofun (ex_store_box (vs := [(I (xs[i]).1), (I (xs[i]).2)]) (k := 0) H (i := 0) rfl ti38 rfl rfl rfl rfl rfl (Nat.le_of_ble_eq_true rfl) (by simp [plain]) rfl) ?_
    rintro σ3 ⟨H, -⟩
    refine endI ?_
    refine q_then (wpIn_seq ?_)
    refine rgI ?_
    refine stI nofun (v := (.func (.yield l) #[] #[])) (rv_move rfl) ?_
    have hc4 := H.cells 0 rfl
    refine stI nofun (v := (.agg #[(I (xs[i]).1), (I (xs[i]).2)])) (rv_load (cs := [(I (xs[i]).1), (I (xs[i]).2)]) Tryz.underlying38 rfl ti38 rfl rfl hc4) ?_
    refine stI_yield (args := [(.agg #[(I (xs[i]).1), (I (xs[i]).2)])]) rfl rfl (hy i hlt σ3 (hst hJ H.md)) ?_
    rintro e w' ⟨rfl, σ4, rfl, hJ4⟩
    refine ⟨_, rfl, ?_⟩
    refine stI nofun (v := (B (!true))) (rv_not rfl) ?_
    refine endI ?_
    refine q_then ?_
    refine cdI_cond false rfl (fun hb => by cases hb) (fun _ => ?_)
    refine wpIn_skip ?_
    refine q_blk (q_then (rgI ?_))
    refine stI nofun (v := (I (w64 ((i : Int) + 1)))) (rv_add (a := (i : Int)) (b := 1) rfl rfl) ?_
    refine stI nofun (v := (I (w64 ((i : Int) + 1)))) (rv_move rfl) ?_
    refine endI ?_
    have e1 : w64 ((i : Int) + 1) = ((i + 1 : Nat) : Int) := w64_id (by omega) (by omega)
    rw [e1]
    refine q_then ?_
    exact ⟨k - 1, by omega, i + 1, _, σ4, by omega, fr_join ⟨rfl, rfl, rfl, rfl, rfl, trivial⟩, rfl, hJ4⟩
  · have hlt : ¬ i < xs.length := by have := of_decide_eq_false hb; omega
    have : i = xs.length := by omega
    subst this
    refine wpIn_exit ?_
    refine q_then_x (q_then_x (q_blk_hit ?_))
    exact fin_plain' (v := .tuple #[]) (results_ok Tryz.results98 res_nil rfl) ⟨⟨_, rfl⟩, σ, rfl, hJ⟩
theorem c_slices_AppendSeq_impl_Hit_impl_Hit__slices_Values_impl_hitHeap_impl_Hit_1 {Bo : List (Int × Int)} {Bp : Option Addr} {Bq : Nat} {Br Bs Bt : Nat} {Bu Bv : List Value} {r : List (Int × Int)} (h : M.slices_AppendSeq_impl_Hit_impl_Hit__slices_Values_impl_hitHeap_impl_Hit_1 Bo = some r) :
    Cal2 Tryz.prog 120 [.slice none 0 0, (.func (.func 98) #[] #[(pt Bs Bt)])] [Ch.bx Br Bs Bt [(Sl Bp Bo Bq)] Bu Bv, Ch.ro 0 (Sl Bp Bo Bq) Bo] (fun n0 v L => ∃ (az1 : Option Addr), ∃ (cz2 : Nat), v = (Sl az1 r cz2) ∧ L = [Ch.own n0 n0 (Sl az1 r cz2) r, Ch.bx Br Bs Bt [(Sl Bp Bo Bq)] Bu Bv]) := by
  obtain ⟨hn, rfl⟩ := coll_some (show M.coll Bo = some r from h)
  refine ⟨⟨_, _, Tryz.func120, rfl, rfl⟩, fun σ0 n0 hn0 H => ?_⟩
  refine callsIn_wide.1 (enterI (n := 13) Tryz.func120 rfl rfl rfl ?_)
  refine wpIn_seq ?_
  refine rgI ?_
  refine stI_ex nofun (ex_box (cs := [.slice none 0 0]) H hn0 rfl rfl) ?_
  rintro _ σ1 ⟨b1, rfl, H, -⟩
  refine stI nofun (v := (.slice none 0 0)) (rv_assign rfl) ?_
  refine endI ?_
  refine q_then (wpIn_seq ?_)
  refine wpIn_seq ?_
  refine rgI ?_
  refine stI nofun (v := (.func (.func 98) #[] #[(pt Bs Bt)])) (rv_move rfl) ?_
  refine endI ?_
  refine q_then (wpIn_block ?_)
  replace H := H.nilOwn (Int × Int) n0 n0
  refine wp_rangeF (gf := 98) (lb := #[(pt Bs Bt)]) (N := r.length) (encs := fun i => [(.agg #[(I (r.getD i (0, 0)).1), (I (r.getD i (0, 0)).2)])].toArray) (by rw [fr_eval]; rfl) (eg_of ⟨_, _, Tryz.func98, rfl, rfl⟩) (fun _ _ => rfl)
    (fun i L => ∃ a' c', L = [Ch.own n0 n0 (Sl a' (r.take i) c') (r.take i), Ch.bx n0 b1 0 [(Sl a' (r.take i) c')] [] [], Ch.bx Br Bs Bt [(Sl Bp r Bq)] Bu Bv, Ch.ro 0 (Sl Bp r Bq) r]) ⟨none, 0, rfl⟩ H ?_ ?_ ?_
  · intro l J hst hJ hy σ h0
    refine it_slices_AppendSeq_impl_Hit_impl_Hit__slices_Values_impl_hitHeap_impl_Hit_1 (J := J) (a := Bp) (c := Bq) hst (fun {i σ} h => ?_) hn (fun i hi σ h => ?_) σ h0
    · obtain ⟨L, R, ⟨a', c', rfl⟩, H⟩ := hJ h
      have H2 := H.drop R
      exact ⟨H2.cells 2 rfl 0 (by simp), (H2.ro 3 rfl).rd⟩
    · have := hy i hi σ h
      simpa [List.getD, hi] using this
  · rintro l D i rc rc' hi σ _ ⟨a', c', rfl⟩ H
    have hgd : r.getD i (0, 0) = r[i] := by simp [List.getD, hi]
    simp only [hgd]
    rw [round_fr]
    refine rgI ?_
    refine stI_ex nofun (ex_alloc (lo := n0) H hn0 ti38 rfl) ?_
    rintro _ σ2 ⟨b5, rfl, H, -⟩
    refine stI_exS nofun (ex_store_box (vs := [(I (r[i]).1), (I (r[i]).2)]) (cs' := [(I (r[i]).1), (I (r[i]).2)]) (k := 0) H (i := 0) rfl ti38 rfl rfl rfl rfl rfl (Nat.le_of_ble_eq_true rfl) (by simp [plain]) rfl) ?_
    rintro σ3 ⟨H, -⟩
    refine endI ?_
    refine q_then ?_
    refine ⟨σ3, _, rfl, H.sel' [1, 2, 0, 3, 4, 5, 6] rfl rfl, ?_⟩
    clear H
    intro σ4 H
    refine wpIn_block ?_
    refine rgI ?_
    have hc1 := H.cells 4 rfl
    refine stI nofun (v := (Sl a' (r.take i) c')) (rv_load1 Tryz.underlying27 rfl rfl (hc1 0 (by simp))) ?_
    have hc5 := H.cells 2 rfl
    refine stI nofun (v := (.agg #[(I (r[i]).1), (I (r[i]).2)])) (rv_load (cs := [(I (r[i]).1), (I (r[i]).2)]) Tryz.underlying38 rfl ti38 rfl rfl hc5) ?_
    refine stI_ex nofun (ex_buildSlice (lo := n0) (el := n0) (xs := ([((r[i]).1, (r[i]).2)] : List (Int × Int))) (ps := [(0, (.agg #[(I (r[i]).1), (I (r[i]).2)]))]) (cs := [(I (r[i]).1), (I (r[i]).2)]) H hn0 Tryz.underlying27 ti38 rfl rfl (by kernel_rfl) (.cons (c := [(I (r[i]).1), (I (r[i]).2)]) ⟨_, _, rfl, rfl, rfl⟩ .nil) rfl) ?_
    rintro _ σ5 ⟨b10, rfl, H, -⟩
    refine stI_ex nofun (ex_append H (i := 4) rfl Tryz.underlying27 Tryz.underlying27 ti38 rfl rfl (by decide) (H.own 0 rfl).rd (take_gapp hi hn) hn0 rfl rfl) ?_
    rintro _ σ6 ⟨a2, c2, rfl, H, -⟩
    refine stI_exS nofun (ex_store_box (vs := [(Sl a2 (r.take (i + 1)) c2)]) (cs' := [(Sl a2 (r.take (i + 1)) c2)]) (k := 0) H (i := 5) rfl ti27 rfl rfl rfl rfl rfl (Nat.le_of_ble_eq_true rfl) (by simp [plain, Sl]) rfl) ?_
    rintro σ7 ⟨H, -⟩
    refine endI ?_
    refine q_blk ?_
    exact ⟨rfl, σ7, _, rfl, ⟨a2, c2, rfl⟩, H.sel' [3, 4, 1, 0, 6, 7] rfl rfl⟩
  · rintro D σ _ ⟨a', c', rfl⟩ H
    rw [List.take_length] at H
    refine q_blk (q_then (wpIn_seq ?_))
    refine rgD (ds := [{ target := .collected D, args := #[] }]) ?_
    have hc1 := H.cells 2 rfl
    refine stD nofun (v := (Sl a' r c')) (rv_load1 Tryz.underlying27 rfl rfl (hc1 0 (by simp))) ?_
    refine stD nofun (v := (Sl a' r c')) (rv_assign rfl) ?_
    refine endD ?_
    refine q_then (wpIn_ret ?_)
    exact fin_mark (v := Sl a' r c') H (results_ok Tryz.results120 (res_tmp (v := Sl a' r c') rfl res_nil) rfl) ⟨_, _, _, rfl, rfl, ⟨a', c', rfl, rfl⟩, (H.putDf _).sel' [0, 2] rfl rfl⟩

theorem c_slices_Collect_impl_Hit__slices_Values_impl_hitHeap_impl_Hit_1 {Bw : List (Int × Int)} {By : Option Addr} {Bz : Nat} {Ca Cb Cc : Nat} {Cd Ce : List Value} {r : (List (Int × Int))} (h : M.slices_Collect_impl_Hit__slices_Values_impl_hitHeap_impl_Hit_1 Bw = some r) :
    Cal2 Tryz.prog 96 [(.func (.func 98) #[] #[(pt Cb Cc)])] [Ch.bx Ca Cb Cc [(Sl By Bw Bz)] Cd Ce, Ch.ro 0 (Sl By Bw Bz) Bw] (fun n0 v L => ∃ (az1 : Option Addr), ∃ (cz2 : Nat), v = (Sl az1 r cz2) ∧ L = [Ch.own n0 n0 (Sl az1 r cz2) r, Ch.bx Ca Cb Cc [(Sl By Bw Bz)] Cd Ce]) := by
 refine cal2 (n := 5) Tryz.func96 rfl rfl rfl rfl ?_
 intro S0 σ0 n0 hn0 H
 unfold M.slices_Collect_impl_Hit__slices_Values_impl_hitHeap_impl_Hit_1 at h
 refine c_seq (rg (sa (.slice none 0 0) rfl (w_end (q_then (c_seq (rg (sm (.func (.func 98) #[] #[(pt Cb Cc)]) rfl ?_)))))))
 revert h; refine br fun r1 hx2 h => ?_
 have hc3 := c_slices_AppendSeq_impl_Hit_impl_Hit__slices_Values_impl_hitHeap_impl_Hit_1 (Br := Ca) (Bs := Cb) (Bt := Cc) (Bu := Cd) (Bv := Ce) (Bp := By) (Bq := Bz) hx2
 refine st_call (cx_call hc3 (ent_f hc3.fn rfl) hn0 (H.sel' [0, 1, 1] rfl rfl : Hp S0 σ0 _ ([_, _] ++ _))) wn ?_
 rintro _ σ6 ⟨_, ⟨a4, c5, rfl, rfl⟩, H, -⟩
 replace H : Hp _ _ _ [_, _, _] := H
 refine sa (Sl a4 r1 c5) rfl (w_end (q_then (c_ret ?_)))
 obtain rfl := sj h
 exact fin_ret (v := (Sl a4 r1 c5)) (results_ok Tryz.results96 (res_tmp (v := (Sl a4 r1 c5)) rfl res_nil) rfl) ⟨a4, c5, rfl, rfl⟩ (H.sel' [0, 1] rfl rfl)

theorem c_slices_insertionSortCmpFunc_impl_Hit__impl_compareHits {Cf : List (Int × Int)} {Cg : Int} {Ci : Int} {Cj : Option Addr} {Ck : Nat} {r : (List (Int × Int))} (h : M.slices_insertionSortCmpFunc_impl_Hit__impl_compareHits Cf Cg Ci = some r) :
    Cal2 Tryz.prog 138 [(Sl Cj Cf Ck), (I Cg), (I Ci), (.func (.func 72) #[] #[])] [Ch.own 0 0 (Sl Cj Cf Ck) Cf] (fun n0 v L => v = (.tuple #[]) ∧ L = [Ch.own 0 0 (Sl Cj r Ck) r] ∧ r.length = Cf.length) := by
 refine cal2 (n := 53) Tryz.func138 rfl rfl rfl rfl ?_
 intro S0 σ0 n0 hn0 H
 unfold M.slices_insertionSortCmpFunc_impl_Hit__impl_compareHits at h
 refine c_seq (rg (sm (I Cg) rfl (st (v := (I (w64 (Cg + 1)))) (rv_add (a := Cg) (b := 1) rfl rfl) (sa (I (w64 (Cg + 1))) rfl (w_end (q_then ?_))))))
 obtain ⟨o1, hj, h'⟩ := bind_some h
 clear h
 refine c_cut (fun e a w => e = .normal ∧ ∃ (ρ : Nat → Value) (σ : St), a = fr 53 (updL ρ [(0, (Sl Cj o1 Ck))]) ∧ w = σ.w ∧ Hp S0 σ0 σ [Ch.own 0 0 (Sl Cj o1 Ck) o1] ∧ o1.length = Cf.length) ?_ ?_
 ·clear h'
  rename _ = some o1 => h
  refine c_blk (wp_loopM _ h (fun s2 a w => ∃ (ρ : Nat → Value) (σ : St), a = fr 53 (updL ρ [(0, (Sl Cj s2.1 Ck)), (1, (I Cg)), (2, (I Ci)), (3, (.func (.func 72) #[] #[])), (8, (I s2.2))]) ∧ w = σ.w ∧ Hp S0 σ0 σ [Ch.own 0 0 (Sl Cj s2.1 Ck) s2.1] ∧ s2.1.length = Cf.length) ⟨_, σ0, fr_join ⟨rfl, rfl, rfl, rfl, rfl, trivial⟩, rfl, H.sel' [0] rfl rfl, rfl⟩ ?_)
  clear h H
  rintro s2 a w o ⟨ρ, σ3, rfl, rfl, H, hn4⟩ h hres
  refine c_seq (c_seq (rg (sm (I s2.2) rfl (sm (I Ci) rfl (st (v := (B (decide (s2.2 < Ci)))) (rv_lss (a := s2.2) (b := Ci) rfl rfl) (w_end (q_then ?_)))))))
  refine cd_cond (decide (s2.2 < Ci)) rfl (fun hb5 => ?_) (fun hb5 => ?_)
  ·replace h := bif_t hb5 h
   refine c_skip (q_then (c_seq (c_blk (c_seq (rg (sm (I s2.2) rfl (sa (I s2.2) rfl (w_end (q_then ?_)))))))))
   obtain ⟨o6, hj, h'⟩ := bind_some h
   clear h
   refine c_cut (fun e a w => e = .normal ∧ ∃ (ρ : Nat → Value) (σ : St), a = fr 53 (updL ρ [(0, (Sl Cj o6 Ck)), (1, (I Cg)), (2, (I Ci)), (3, (.func (.func 72) #[] #[])), (8, (I s2.2))]) ∧ w = σ.w ∧ Hp S0 σ0 σ [Ch.own 0 0 (Sl Cj o6 Ck) o6] ∧ o6.length = s2.1.length) ?_ ?_
   ·clear h'
    rename _ = some o6 => h
    refine c_blk (wp_loopM _ h (fun s7 a w => ∃ (ρ : Nat → Value) (σ : St), a = fr 53 (updL ρ [(0, (Sl Cj s7.1 Ck)), (1, (I Cg)), (2, (I Ci)), (3, (.func (.func 72) #[] #[])), (8, (I s2.2)), (9, (I s7.2))]) ∧ w = σ.w ∧ Hp S0 σ0 σ [Ch.own 0 0 (Sl Cj s7.1 Ck) s7.1] ∧ s7.1.length = s2.1.length) ⟨_, σ3, fr_join ⟨rfl, rfl, rfl, rfl, rfl, rfl, trivial⟩, rfl, H.sel' [0] rfl rfl, rfl⟩ ?_)
    clear h H
    rintro s7 a w o ⟨ρ, σ8, rfl, rfl, H, hn9⟩ h hres
    refine c_seq (c_seq ?_)
    obtain ⟨o10, hj, h'⟩ := bind_some h
    clear h
    refine c_cut (fun e a w => e = .normal ∧ ∃ (ρ : Nat → Value) (σ : St), a = fr 53 (updL ρ [(0, (Sl Cj s7.1 Ck)), (1, (I Cg)), (2, (I Ci)), (3, (.func (.func 72) #[] #[])), (8, (I s2.2)), (9, (I s7.2)), (34, (B o10))]) ∧ w = σ.w ∧ Hp S0 σ0 σ [Ch.own 0 0 (Sl Cj s7.1 Ck) s7.1]) ?_ ?_
    ·clear h'
     rename _ = some o10 => h
     refine rgP (σ := σ8) 14 (by kernel_rfl) (by kernel_rfl) (by kernel_rfl) ?_
     refine sq (v := (I s7.2)) (rv_move rfl) (sq (v := (I Cg)) (rv_move rfl) (sq (v := (B (decide (Cg < s7.2)))) (rv_gtr (a := s7.2) (b := Cg) rfl rfl) (sq (v := (B (decide (Cg < s7.2)))) (rv_move rfl) ?_)))
     rcases Bool.eq_false_or_eq_true (decide (Cg < s7.2)) with hb11 | hb11
     ·replace h := bif_t hb11 h
      refine sq_g (v := (.func (.func 72) #[] #[])) (congrArg some hb11) (rv_move rfl) (sq_g (v := (Sl Cj s7.1 Ck)) (congrArg some hb11) (rv_move rfl) (sq_g (v := (I s7.2)) (congrArg some hb11) (rv_move rfl) ?_))
      revert h; refine br fun x12 hx13 h => ?_
      obtain ⟨b15, o16, hi14, -⟩ := (H.own 0 rfl).ix hx13
      refine sq_g (v := (pt b15 o16)) (congrArg some hb11) (rv_ix Tryz.underlying27 ti38 rfl rfl hi14) ?_
      obtain ⟨_, ⟨_, _, rfl, rfl, rfl⟩, hl17, hc18⟩ := ((H.own 0 rfl).at hx13 hi14).cells
      refine sq_g (v := (.agg #[(I x12.1), (I x12.2)])) (congrArg some hb11) (rv_load Tryz.underlying38 rfl ti38 rfl hl17 hc18) (sq_g (v := (Sl Cj s7.1 Ck)) (congrArg some hb11) (rv_move rfl) (sq_g (v := (I s7.2)) (congrArg some hb11) (rv_move rfl) (sq_g (v := (I (w64 (s7.2 - 1)))) (congrArg some hb11) (rv_sub (a := s7.2) (b := 1) rfl rfl) ?_)))
      revert h; refine br fun x19 hx20 h => ?_
      obtain ⟨b22, o23, hi21, -⟩ := (H.own 0 rfl).ix hx20
      refine sq_g (v := (pt b22 o23)) (congrArg some hb11) (rv_ix Tryz.underlying27 ti38 rfl rfl hi21) ?_
      obtain ⟨_, ⟨_, _, rfl, rfl, rfl⟩, hl24, hc25⟩ := ((H.own 0 rfl).at hx20 hi21).cells
      refine sq_g (v := (.agg #[(I x19.1), (I x19.2)])) (congrArg some hb11) (rv_load Tryz.underlying38 rfl ti38 rfl hl24 hc25) (sq_end ?_)
      intro σ26 hm27
      replace H := H.grow (hm27.mono fun _ h => h); clear hm27
      revert h; refine br fun r28 hx29 h => ?_
      have hc30 := c_impl_compareHits hx29
      refine st_call (cx_call hc30 (ent_v (cap := []) hc30.fn rfl rfl) hn0 (H.sel' [0] rfl rfl : Hp S0 σ0 _ ([] ++ _))) (wanted_yes rfl (by exact (congrArg some hb11))) ?_
      rintro _ σ31 ⟨_, ⟨rfl, rfl⟩, H, -⟩
      replace H : Hp _ _ _ [_] := H
      refine st_g (v := (B (decide (r28 < 0)))) (congrArg some hb11) (rv_lss (a := r28) (b := 0) rfl rfl) (st (v := (B (decide (r28 < 0)))) (rv_pick_t (congrArg B hb11) rfl) (w_end ?_))
      obtain rfl := sj h
      exact ⟨rfl, _, σ31, fr_join ⟨rfl, rfl, rfl, rfl, rfl, rfl, rfl, trivial⟩, rfl, H.sel' [0] rfl rfl⟩
     ·replace h := bif_f hb11 h
      refine sq_skip (congrArg some hb11) (sq_skip (congrArg some hb11) (sq_skip (congrArg some hb11) (sq_skip (congrArg some hb11) (sq_skip (congrArg some hb11) (sq_skip (congrArg some hb11) (sq_skip (congrArg some hb11) (sq_skip (congrArg some hb11) (sq_skip (congrArg some hb11) (sq_skip (congrArg some hb11) (sq_end ?_))))))))))
      intro σ32 hm33
      replace H := H.grow (hm33.mono fun _ h => h); clear hm33
      refine st_skip (congrArg some hb11) (st_skip (congrArg some hb11) (st (v := (B false)) (rv_pick_f (congrArg B hb11) rfl) (w_end ?_)))
      obtain rfl := sj h
      exact ⟨rfl, _, σ32, fr_join ⟨rfl, rfl, rfl, rfl, rfl, rfl, rfl, trivial⟩, rfl, H.sel' [0] rfl rfl⟩
    ·clear hj
     have h := h'
     clear h' H
     rintro e a w ⟨rfl, ρ, σ34, rfl, rfl, H⟩
     refine q_then ?_
     refine cd_cond o10 rfl (fun hb35 => ?_) (fun hb35 => ?_)
     ·replace h := bif_t hb35 h
      refine c_skip (q_then (c_seq (c_blk ?_)))
      revert h; refine br fun x36 hx37 h => ?_
      obtain ⟨b39, o40, hi38, -⟩ := (H.own 0 rfl).ix hx37
      obtain ⟨_, ⟨_, _, rfl, rfl, rfl⟩, hl41, hc42⟩ := ((H.own 0 rfl).at hx37 hi38).cells
      revert h; refine br fun x43 hx44 h => ?_
      obtain ⟨b46, o47, hi45, -⟩ := (H.own 0 rfl).ix hx44
      obtain ⟨_, ⟨_, _, rfl, rfl, rfl⟩, hl48, hc49⟩ := ((H.own 0 rfl).at hx44 hi45).cells
      revert h; refine br fun x50 hx51 h => ?_
      obtain ⟨b53, o54, hi52, -⟩ := (H.own 0 rfl).ix hx51
      have Hs := H
      refine rg2 (σ := σ34) (Nm := Unit) 16 [15] [[false], [true]] [[(0, 0)], [(0, 0)], [(0, 0), (1, 1)], [(0, 0), (1, 1)], [(0, 0), (1, 1)], [(0, 0)], [(0, 0)], [(0, 0)], [(0, 0)], [(0, 0)], [(0, 0)], [(0, 0)], [(0, 0)], [(0, 0)], [(0, 0)], [(0, 1)]] 1 [fun _ => fun σm => Hp S0 σ0 σm [Ch.own 0 0 (Sl Cj s7.1 Ck) s7.1] ∧ Md (cov []) σ34 σm, fun _ => fun σm => Hp S0 σ0 σm [Ch.own 0 0 (Sl Cj s7.1 Ck) (s7.1.set s7.2.toNat (x36.1, x36.2))] ∧ Md (fun i => (cov []) i ∨ (fun b => blk (Sl Cj s7.1 Ck) = some b) i) σ34 σm] [fun _ => (Sl Cj s7.1 Ck), fun _ => (I s7.2), fun _ => (Sl Cj s7.1 Ck), fun _ => (I s7.2), fun _ => (I (w64 (s7.2 - 1))), fun _ => (Sl Cj s7.1 Ck), fun _ => (I s7.2), fun _ => (I (w64 (s7.2 - 1))), fun _ => (pt b39 o40), fun _ => (.agg #[(I x36.1), (I x36.2)]), fun _ => (Sl Cj s7.1 Ck), fun _ => (I s7.2), fun _ => (pt b46 o47), fun _ => (.agg #[(I x43.1), (I x43.2)]), fun _ => (pt b53 o54), fun _ => undef] () (by kernel_rfl) (by kernel_rfl) ?_ ?_ ?_
      ·intro σm m0
       exact ⟨H.grow (m0.mono fun _ h => h.elim), m0⟩
      ·refine ac rfl (by
         intro k _nm ρ σm hJ hoff hdep
         have e0 := look_off (N := 53) (hoff 0 rfl) rfl
         exact dp_v (v := (Sl Cj s7.1 Ck)) wn (rv_move e0) rfl hJ) ?_
       refine ac rfl (by
         intro k _nm ρ σm hJ hoff hdep
         have e9 := look_off (N := 53) (hoff 9 rfl) rfl
         exact dp_v (v := (I s7.2)) wn (rv_move e9) rfl hJ) ?_
       refine ac rfl (by
         intro k _nm ρ σm hJ hoff hdep
         have e0 := look_off (N := 53) (hoff 0 rfl) rfl
         exact dp_v (v := (Sl Cj s7.1 Ck)) wn (rv_move e0) rfl hJ) ?_
       refine ac rfl (by
         intro k _nm ρ σm hJ hoff hdep
         have e9 := look_off (N := 53) (hoff 9 rfl) rfl
         exact dp_v (v := (I s7.2)) wn (rv_move e9) rfl hJ) ?_
       refine ac rfl (by
         intro k _nm ρ σm hJ hoff hdep
         have e40 := hdep 3 rfl rfl 40 rfl
         exact dp_v (v := (I (w64 (s7.2 - 1)))) wn (rv_sub (a := s7.2) (b := 1) e40 rfl) rfl hJ) ?_
       refine ac rfl (by
         intro k _nm ρ σm hJ hoff hdep
         have e0 := look_off (N := 53) (hoff 0 rfl) rfl
         exact dp_v (v := (Sl Cj s7.1 Ck)) wn (rv_move e0) rfl hJ) ?_
       refine ac rfl (by
         intro k _nm ρ σm hJ hoff hdep
         have e9 := look_off (N := 53) (hoff 9 rfl) rfl
         exact dp_v (v := (I s7.2)) wn (rv_move e9) rfl hJ) ?_
       refine ac rfl (by
         intro k _nm ρ σm hJ hoff hdep
         have e43 := hdep 6 rfl rfl 43 rfl
         exact dp_v (v := (I (w64 (s7.2 - 1)))) wn (rv_sub (a := s7.2) (b := 1) e43 rfl) rfl hJ) ?_
       refine ac rfl (by
         intro k _nm ρ σm hJ hoff hdep
         have e42 := hdep 5 rfl rfl 42 rfl
         have e44 := hdep 7 rfl rfl 44 rfl
         exact dp_v (v := (pt b39 o40)) wn (rv_ix Tryz.underlying27 ti38 e42 e44 hi38) rfl hJ) ?_
       refine all_cons (by
         refine ⟨?_, ?_⟩
         ·intro _nm ρ σm hJ hoff hdep
          have e45 := hdep 8 rfl rfl 45 rfl
          obtain ⟨H, m⟩ := id hJ
          obtain ⟨_, ⟨_, _, rfl, rfl, rfl⟩, hl41, hc42⟩ := ((H.own 0 rfl).at hx37 hi38).cells
          exact dp_v (v := (.agg #[(I x36.1), (I x36.2)])) wn (rv_load Tryz.underlying38 rfl ti38 e45 hl41 hc42) rfl hJ
         trivial) ?_
       refine ac rfl (by
         intro k _nm ρ σm hJ hoff hdep
         have e0 := look_off (N := 53) (hoff 0 rfl) rfl
         exact dp_v (v := (Sl Cj s7.1 Ck)) wn (rv_move e0) rfl hJ) ?_
       refine ac rfl (by
         intro k _nm ρ σm hJ hoff hdep
         have e9 := look_off (N := 53) (hoff 9 rfl) rfl
         exact dp_v (v := (I s7.2)) wn (rv_move e9) rfl hJ) ?_
       refine ac rfl (by
         intro k _nm ρ σm hJ hoff hdep
         have e47 := hdep 10 rfl rfl 47 rfl
         have e48 := hdep 11 rfl rfl 48 rfl
         exact dp_v (v := (pt b46 o47)) wn (rv_ix Tryz.underlying27 ti38 e47 e48 hi45) rfl hJ) ?_
       refine all_cons (by
         refine ⟨?_, ?_⟩
         ·intro _nm ρ σm hJ hoff hdep
          have e49 := hdep 12 rfl rfl 49 rfl
          obtain ⟨H, m⟩ := id hJ
          obtain ⟨_, ⟨_, _, rfl, rfl, rfl⟩, hl48, hc49⟩ := ((H.own 0 rfl).at hx44 hi45).cells
          exact dp_v (v := (.agg #[(I x43.1), (I x43.2)])) wn (rv_load Tryz.underlying38 rfl ti38 e49 hl48 hc49) rfl hJ
         trivial) ?_
       refine ac rfl (by
         intro k _nm ρ σm hJ hoff hdep
         have e37 := hdep 0 rfl rfl 37 rfl
         have e38 := hdep 1 rfl rfl 38 rfl
         exact dp_v (v := (pt b53 o54)) wn (rv_ix Tryz.underlying27 ti38 e37 e38 hi52) rfl hJ) ?_
       refine all_cons (by
         refine ⟨?_, ?_⟩
         ·intro _nm ρ σm hJ hoff hdep
          have e51 := hdep 14 rfl rfl 51 rfl
          have e46 := hdep 9 rfl rfl 46 rfl
          obtain ⟨H, m⟩ := id hJ
          refine dp_exS wn rfl (ex_store_own (e' := (x36.1, x36.2)) (vs := [(I x36.1), (I x36.2)]) (k := 0) H (i := 0) rfl ti38 hx51 hi52 e51 rfl e46 rfl rfl (Nat.le_of_ble_eq_true rfl) (by simp [plain]) (by rintro _ ⟨_, _, rfl, rfl, rfl⟩; exact ⟨[(I x36.1)], [(I x36.2)], rfl, rfl, rfl⟩)) ?_
          rintro σq ⟨H2, m2⟩
          exact ⟨_, (), rfl, ⟨H2.sel' [0] rfl rfl, m.comp m2⟩, stab [0, 1, 2, 3, 4, 5, 6, 7, 8, 9, 10, 11, 12, 13, 14] (by kernel_rfl) ⟨rfl, rfl, rfl, rfl, rfl, rfl, rfl, rfl, rfl, rfl, rfl, rfl, rfl, rfl, rfl, trivial⟩⟩
         trivial) ?_
       exact all_nil
      ·intro _nm ρ σ55 hJ hoff hrel
       have e0 := look_off (N := 53) (hoff 0 rfl) rfl
       have e1 := look_off (N := 53) (hoff 1 rfl) rfl
       have e2 := look_off (N := 53) (hoff 2 rfl) rfl
       have e3 := look_off (N := 53) (hoff 3 rfl) rfl
       have e8 := look_off (N := 53) (hoff 8 rfl) rfl
       have e9 := look_off (N := 53) (hoff 9 rfl) rfl
       have e39 := hrel 2 rfl 39 rfl
       have e41 := hrel 4 rfl 41 rfl
       have e50 := hrel 13 rfl 50 rfl
       obtain ⟨H, -⟩ := (show Hp S0 σ0 σ55 [Ch.own 0 0 (Sl Cj s7.1 Ck) (s7.1.set s7.2.toNat (x36.1, x36.2))] ∧ Md (fun i => (cov []) i ∨ (fun b => blk (Sl Cj s7.1 Ck) = some b) i) σ34 σ55 from hJ)
       clear hJ Hs
       rw [fr_lookL (L := [(0, (Sl Cj s7.1 Ck)), (1, (I Cg)), (2, (I Ci)), (3, (.func (.func 72) #[] #[])), (8, (I s2.2)), (9, (I s7.2)), (39, (Sl Cj s7.1 Ck)), (41, (I (w64 (s7.2 - 1)))), (50, (.agg #[(I x43.1), (I x43.2)]))]) ⟨e0, e1, e2, e3, e8, e9, e39, e41, e50, trivial⟩]
       clear hoff hrel e0 e1 e2 e3 e8 e9 e39 e41 e50
       have hsl : (Sl Cj s7.1 Ck) = (Sl Cj (s7.1.set s7.2.toNat (x36.1, x36.2)) Ck) := sl_len (by simp)
       rw [hsl]; rw [hsl] at H; clear hsl
       revert h; refine br fun x56 hx57 h => ?_
       obtain ⟨b59, o60, hi58, -⟩ := (H.own 0 rfl).ix hx57
       refine st (v := (pt b59 o60)) (rv_ix Tryz.underlying27 ti38 rfl rfl hi58) ?_
       refine st_exS (ex_store_own (e' := (x43.1, x43.2)) (vs := [(I x43.1), (I x43.2)]) (k := 0) H (i := 0) rfl ti38 hx57 hi58 rfl rfl rfl rfl rfl (Nat.le_of_ble_eq_true rfl) (by simp [plain]) (by rintro _ ⟨_, _, rfl, rfl, rfl⟩; exact ⟨[(I x43.1)], [(I x43.2)], rfl, rfl, rfl⟩)) wn ?_
       rintro σ61 ⟨H, -⟩
       have hsl : (Sl Cj (s7.1.set s7.2.toNat (x36.1, x36.2)) Ck) = (Sl Cj ((s7.1.set s7.2.toNat (x36.1, x36.2)).set (w64 (s7.2 - 1)).toNat (x43.1, x43.2)) Ck) := sl_len List.length_set.symm
       rw [hsl]; rw [hsl] at H; clear hsl
       refine w_end (q_blk (q_then (rg (sm (I s7.2) rfl (st (v := (I (w64 (s7.2 - 1)))) (rv_sub (a := s7.2) (b := 1) rfl rfl) (sa (I (w64 (s7.2 - 1))) rfl (w_end (q_then ?_))))))))
       obtain rfl := sj h
       exact ⟨_, rfl, _, σ61, fr_join ⟨rfl, rfl, rfl, rfl, rfl, rfl, trivial⟩, rfl, H.sel' [0] rfl rfl, ((List.length_set.trans (List.length_set.trans (hn9.trans hn4))).trans hn4.symm)⟩
     ·replace h := bif_f hb35 h
      refine c_exit (q_then_x (q_then_x (q_blk_hit ?_)))
      obtain rfl := sj h
      obtain rfl := hres _ rfl
      exact ⟨rfl, _, σ34, fr_join ⟨rfl, rfl, rfl, rfl, rfl, trivial⟩, rfl, H.sel' [0] rfl rfl, ((hn9.trans hn4).trans hn4.symm)⟩
   ·clear hj
    have h := h'
    clear h' H
    rintro e a w ⟨rfl, ρ, σ62, rfl, rfl, H, hn63⟩
    refine q_blk (q_then (rg (sm (I s2.2) rfl (st (v := (I (w64 (s2.2 + 1)))) (rv_add (a := s2.2) (b := 1) rfl rfl) (sa (I (w64 (s2.2 + 1))) rfl (w_end (q_then ?_)))))))
    obtain rfl := sj h
    exact ⟨_, rfl, _, σ62, fr_join ⟨rfl, rfl, rfl, rfl, rfl, trivial⟩, rfl, H.sel' [0] rfl rfl, (hn63.trans hn4)⟩
  ·replace h := bif_f hb5 h
   refine c_exit (q_then_x (q_then_x (q_blk_hit ?_)))
   obtain rfl := sj h
   obtain rfl := hres _ rfl
   exact ⟨rfl, _, σ3, fr_join ⟨rfl, trivial⟩, rfl, H.sel' [0] rfl rfl, hn4⟩
 ·clear hj
  have h := h'
  clear h' H
  rintro e a w ⟨rfl, ρ, σ64, rfl, rfl, H, hn65⟩
  obtain rfl := sj h
  exact fin_end (v := (.tuple #[])) (results_ok Tryz.results138 res_nil rfl) ⟨rfl, rfl, hn65⟩ (H.sel' [0] rfl rfl)

theorem c_slices_siftDownCmpFunc_impl_Hit__impl_compareHits {Cf : List (Int × Int)} {Cl : Int} {Cm : Int} {Cn : Int} {Cj : Option Addr} {Ck : Nat} {r : (List (Int × Int))} (h : M.slices_siftDownCmpFunc_impl_Hit__impl_compareHits Cf Cl Cm Cn = some r) :
    Cal2 Tryz.prog 154 [(Sl Cj Cf Ck), (I Cl), (I Cm), (I Cn), (.func (.func 72) #[] #[])] [Ch.own 0 0 (Sl Cj Cf Ck) Cf] (fun n0 v L => v = (.tuple #[]) ∧ L = [Ch.own 0 0 (Sl Cj r Ck) r] ∧ r.length = Cf.length) := by
 refine cal2 (n := 82) Tryz.func154 rfl rfl rfl rfl ?_
 intro S0 σ0 n0 hn0 H
 unfold M.slices_siftDownCmpFunc_impl_Hit__impl_compareHits at h
 refine c_seq (rg (sm (I Cl) rfl (sa (I Cl) rfl (w_end (q_then ?_)))))
 obtain ⟨o1, hj, h'⟩ := bind_some h
 clear h
 refine c_cut (fun e a w => (∃ t, o1 = (.inl t) ∧ e = .normal ∧ ∃ (ρ : Nat → Value) (σ : St), a = fr 82 (updL ρ [(0, (Sl Cj t Ck))]) ∧ w = σ.w ∧ Hp S0 σ0 σ [Ch.own 0 0 (Sl Cj t Ck) t] ∧ t.length = Cf.length) ∨ (∃ t, o1 = (.inr t) ∧ e = .ret ∧ ∃ (ρ : Nat → Value) (σ : St), a = fr 82 (updL ρ [(0, (Sl Cj t Ck))]) ∧ w = σ.w ∧ Hp S0 σ0 σ [Ch.own 0 0 (Sl Cj t Ck) t] ∧ t.length = Cf.length)) ?_ ?_
 ·clear h'
  rename _ = some o1 => h
  refine c_blk (wp_loopM _ h (fun s2 a w => ∃ (ρ : Nat → Value) (σ : St), a = fr 82 (updL ρ [(0, (Sl Cj s2.1 Ck)), (2, (I Cm)), (3, (I Cn)), (4, (.func (.func 72) #[] #[])), (10, (I s2.2))]) ∧ w = σ.w ∧ Hp S0 σ0 σ [Ch.own 0 0 (Sl Cj s2.1 Ck) s2.1] ∧ s2.1.length = Cf.length) ⟨_, σ0, fr_join ⟨rfl, rfl, rfl, rfl, rfl, trivial⟩, rfl, H.sel' [0] rfl rfl, rfl⟩ ?_)
  clear h H
  rintro s2 a w o ⟨ρ, σ3, rfl, rfl, H, hn4⟩ h hres
  refine c_blk (c_seq (rg (sm (I s2.2) rfl (st (v := (I (w64 (2 * s2.2)))) (rv_mul (a := 2) (b := s2.2) rfl rfl) (st (v := (I (w64 ((w64 (2 * s2.2)) + 1)))) (rv_add (a := (w64 (2 * s2.2))) (b := 1) rfl rfl) (sa (I (w64 ((w64 (2 * s2.2)) + 1))) rfl (w_end (q_then (c_seq (c_seq (rg ?_)))))))))))
  refine sm (I (w64 ((w64 (2 * s2.2)) + 1))) rfl (sm (I Cm) rfl (st (v := (B (decide (Cm ≤ (w64 ((w64 (2 * s2.2)) + 1)))))) (rv_geq (a := (w64 ((w64 (2 * s2.2)) + 1))) (b := Cm) rfl rfl) (w_end (q_then ?_))))
  refine cd_cond (decide (Cm ≤ (w64 ((w64 (2 * s2.2)) + 1)))) rfl (fun hb5 => ?_) (fun hb5 => ?_)
  ·replace h := bif_t hb5 h
   refine c_exit (q_then_x ?_)
   refine q_blk_x (by decide) ?_
   refine q_then_x (q_blk_hit ?_)
   obtain rfl := sj h
   obtain rfl := hres _ rfl
   exact .inl ⟨_, rfl, rfl, _, σ3, fr_join ⟨rfl, trivial⟩, rfl, H.sel' [0] rfl rfl, hn4⟩
  ·replace h := bif_f hb5 h
   refine c_skip (q_then (c_seq (c_seq ?_)))
   obtain ⟨o6, hj, h'⟩ := bind_some h
   clear h
   refine c_cut (fun e a w => e = .normal ∧ ∃ (ρ : Nat → Value) (σ : St), a = fr 82 (updL ρ [(0, (Sl Cj s2.1 Ck)), (2, (I Cm)), (3, (I Cn)), (4, (.func (.func 72) #[] #[])), (10, (I s2.2)), (11, (I (w64 ((w64 (2 * s2.2)) + 1)))), (40, (B o6))]) ∧ w = σ.w ∧ Hp S0 σ0 σ [Ch.own 0 0 (Sl Cj s2.1 Ck) s2.1]) ?_ ?_
   ·clear h'
    rename _ = some o6 => h
    refine rgP (σ := σ3) 19 (by kernel_rfl) (by kernel_rfl) (by kernel_rfl) ?_
    refine sq (v := (I (w64 ((w64 (2 * s2.2)) + 1)))) (rv_move rfl) (sq (v := (I (w64 ((w64 ((w64 (2 * s2.2)) + 1)) + 1)))) (rv_add (a := (w64 ((w64 (2 * s2.2)) + 1))) (b := 1) rfl rfl) (sq (v := (I Cm)) (rv_move rfl) (sq (v := (B (decide ((w64 ((w64 ((w64 (2 * s2.2)) + 1)) + 1)) < Cm)))) (rv_lss (a := (w64 ((w64 ((w64 (2 * s2.2)) + 1)) + 1))) (b := Cm) rfl rfl) (sq (v := (B (decide ((w64 ((w64 ((w64 (2 * s2.2)) + 1)) + 1)) < Cm)))) (rv_move rfl) ?_))))
    rcases Bool.eq_false_or_eq_true (decide ((w64 ((w64 ((w64 (2 * s2.2)) + 1)) + 1)) < Cm)) with hb7 | hb7
    ·replace h := bif_t hb7 h
     refine sq_g (v := (.func (.func 72) #[] #[])) (congrArg some hb7) (rv_move rfl) (sq_g (v := (Sl Cj s2.1 Ck)) (congrArg some hb7) (rv_move rfl) (sq_g (v := (I Cn)) (congrArg some hb7) (rv_move rfl) (sq_g (v := (I (w64 ((w64 (2 * s2.2)) + 1)))) (congrArg some hb7) (rv_move rfl) (sq_g (v := (I (w64 (Cn + (w64 ((w64 (2 * s2.2)) + 1)))))) (congrArg some hb7) (rv_add (a := Cn) (b := (w64 ((w64 (2 * s2.2)) + 1))) rfl rfl) ?_))))
     revert h; refine br fun x8 hx9 h => ?_
     obtain ⟨b11, o12, hi10, -⟩ := (H.own 0 rfl).ix hx9
     refine sq_g (v := (pt b11 o12)) (congrArg some hb7) (rv_ix Tryz.underlying27 ti38 rfl rfl hi10) ?_
     obtain ⟨_, ⟨_, _, rfl, rfl, rfl⟩, hl13, hc14⟩ := ((H.own 0 rfl).at hx9 hi10).cells
     refine sq_g (v := (.agg #[(I x8.1), (I x8.2)])) (congrArg some hb7) (rv_load Tryz.underlying38 rfl ti38 rfl hl13 hc14) (sq_g (v := (Sl Cj s2.1 Ck)) (congrArg some hb7) (rv_move rfl) (sq_g (v := (I Cn)) (congrArg some hb7) (rv_move rfl) (sq_g (v := (I (w64 ((w64 (2 * s2.2)) + 1)))) (congrArg some hb7) (rv_move rfl) (sq_g (v := (I (w64 (Cn + (w64 ((w64 (2 * s2.2)) + 1)))))) (congrArg some hb7) (rv_add (a := Cn) (b := (w64 ((w64 (2 * s2.2)) + 1))) rfl rfl) (sq_g (v := (I (w64 ((w64 (Cn + (w64 ((w64 (2 * s2.2)) + 1)))) + 1)))) (congrArg some hb7) (rv_add (a := (w64 (Cn + (w64 ((w64 (2 * s2.2)) + 1))))) (b := 1) rfl rfl) ?_)))))
     revert h; refine br fun x15 hx16 h => ?_
     obtain ⟨b18, o19, hi17, -⟩ := (H.own 0 rfl).ix hx16
     refine sq_g (v := (pt b18 o19)) (congrArg some hb7) (rv_ix Tryz.underlying27 ti38 rfl rfl hi17) ?_
     obtain ⟨_, ⟨_, _, rfl, rfl, rfl⟩, hl20, hc21⟩ := ((H.own 0 rfl).at hx16 hi17).cells
     refine sq_g (v := (.agg #[(I x15.1), (I x15.2)])) (congrArg some hb7) (rv_load Tryz.underlying38 rfl ti38 rfl hl20 hc21) (sq_end ?_)
     intro σ22 hm23
     replace H := H.grow (hm23.mono fun _ h => h); clear hm23
     revert h; refine br fun r24 hx25 h => ?_
     have hc26 := c_impl_compareHits hx25
     refine st_call (cx_call hc26 (ent_v (cap := []) hc26.fn rfl rfl) hn0 (H.sel' [0] rfl rfl : Hp S0 σ0 _ ([] ++ _))) (wanted_yes rfl (by exact (congrArg some hb7))) ?_
     rintro _ σ27 ⟨_, ⟨rfl, rfl⟩, H, -⟩
     replace H : Hp _ _ _ [_] := H
     refine st_g (v := (B (decide (r24 < 0)))) (congrArg some hb7) (rv_lss (a := r24) (b := 0) rfl rfl) (st (v := (B (decide (r24 < 0)))) (rv_pick_t (congrArg B hb7) rfl) (w_end ?_))
     obtain rfl := sj h
     exact ⟨rfl, _, σ27, fr_join ⟨rfl, rfl, rfl, rfl, rfl, rfl, rfl, trivial⟩, rfl, H.sel' [0] rfl rfl⟩
    ·replace h := bif_f hb7 h
     refine sq_skip (congrArg some hb7) (sq_skip (congrArg some hb7) (sq_skip (congrArg some hb7) (sq_skip (congrArg some hb7) (sq_skip (congrArg some hb7) (sq_skip (congrArg some hb7) (sq_skip (congrArg some hb7) (sq_skip (congrArg some hb7) (sq_skip (congrArg some hb7) (sq_skip (congrArg some hb7) (sq_skip (congrArg some hb7) (sq_skip (congrArg some hb7) ?_)))))))))))
     refine sq_skip (congrArg some hb7) (sq_skip (congrArg some hb7) (sq_end ?_))
     intro σ28 hm29
     replace H := H.grow (hm29.mono fun _ h => h); clear hm29
     refine st_skip (congrArg some hb7) (st_skip (congrArg some hb7) (st (v := (B false)) (rv_pick_f (congrArg B hb7) rfl) (w_end ?_)))
     obtain rfl := sj h
     exact ⟨rfl, _, σ28, fr_join ⟨rfl, rfl, rfl, rfl, rfl, rfl, rfl, trivial⟩, rfl, H.sel' [0] rfl rfl⟩
   ·clear hj
    have h := h'
    clear h' H
    rintro e a w ⟨rfl, ρ, σ30, rfl, rfl, H⟩
    refine q_then ?_
    obtain ⟨o31, hj, h'⟩ := bind_some h
    clear h
    refine c_cut (fun e a w => e = .normal ∧ ∃ (ρ : Nat → Value) (σ : St), a = fr 82 (updL ρ [(0, (Sl Cj s2.1 Ck)), (2, (I Cm)), (3, (I Cn)), (4, (.func (.func 72) #[] #[])), (10, (I s2.2)), (11, (I o31))]) ∧ w = σ.w ∧ Hp S0 σ0 σ [Ch.own 0 0 (Sl Cj s2.1 Ck) s2.1]) ?_ ?_
    ·clear h'
     rename _ = some o31 => h
     refine cd_cond o6 rfl (fun hb32 => ?_) (fun hb32 => ?_)
     ·replace h := bif_t hb32 h
      refine rg (sm (I (w64 ((w64 (2 * s2.2)) + 1))) rfl (st (v := (I (w64 ((w64 ((w64 (2 * s2.2)) + 1)) + 1)))) (rv_add (a := (w64 ((w64 (2 * s2.2)) + 1))) (b := 1) rfl rfl) (sa (I (w64 ((w64 ((w64 (2 * s2.2)) + 1)) + 1))) rfl (w_end ?_))))
      obtain rfl := sj h
      exact ⟨rfl, _, σ30, fr_join ⟨rfl, rfl, rfl, rfl, rfl, rfl, trivial⟩, rfl, H.sel' [0] rfl rfl⟩
     ·replace h := bif_f hb32 h
      refine c_skip ?_
      obtain rfl := sj h
      exact ⟨rfl, _, σ30, fr_join ⟨rfl, rfl, rfl, rfl, rfl, rfl, trivial⟩, rfl, H.sel' [0] rfl rfl⟩
    ·clear hj
     have h := h'
     clear h' H
     rintro e a w ⟨rfl, ρ, σ33, rfl, rfl, H⟩
     refine q_then (c_seq (c_seq ?_))
     refine rgP (σ := σ33) 13 (by kernel_rfl) (by kernel_rfl) (by kernel_rfl) ?_
     refine sq (v := (.func (.func 72) #[] #[])) (rv_move rfl) (sq (v := (Sl Cj s2.1 Ck)) (rv_move rfl) (sq (v := (I Cn)) (rv_move rfl) (sq (v := (I s2.2)) (rv_move rfl) (sq (v := (I (w64 (Cn + s2.2)))) (rv_add (a := Cn) (b := s2.2) rfl rfl) ?_))))
     revert h; refine br fun x34 hx35 h => ?_
     obtain ⟨b37, o38, hi36, -⟩ := (H.own 0 rfl).ix hx35
     refine sq (v := (pt b37 o38)) (rv_ix Tryz.underlying27 ti38 rfl rfl hi36) ?_
     obtain ⟨_, ⟨_, _, rfl, rfl, rfl⟩, hl39, hc40⟩ := ((H.own 0 rfl).at hx35 hi36).cells
     refine sq (v := (.agg #[(I x34.1), (I x34.2)])) (rv_load Tryz.underlying38 rfl ti38 rfl hl39 hc40) (sq (v := (Sl Cj s2.1 Ck)) (rv_move rfl) (sq (v := (I Cn)) (rv_move rfl) (sq (v := (I o31)) (rv_move rfl) (sq (v := (I (w64 (Cn + o31)))) (rv_add (a := Cn) (b := o31) rfl rfl) ?_))))
     revert h; refine br fun x41 hx42 h => ?_
     obtain ⟨b44, o45, hi43, -⟩ := (H.own 0 rfl).ix hx42
     refine sq (v := (pt b44 o45)) (rv_ix Tryz.underlying27 ti38 rfl rfl hi43) ?_
     obtain ⟨_, ⟨_, _, rfl, rfl, rfl⟩, hl46, hc47⟩ := ((H.own 0 rfl).at hx42 hi43).cells
     refine sq (v := (.agg #[(I x41.1), (I x41.2)])) (rv_load Tryz.underlying38 rfl ti38 rfl hl46 hc47) (sq_end ?_)
     intro σ48 hm49
     replace H := H.grow (hm49.mono fun _ h => h); clear hm49
     revert h; refine br fun r50 hx51 h => ?_
     have hc52 := c_impl_compareHits hx51
     refine st_call (cx_call hc52 (ent_v (cap := []) hc52.fn rfl rfl) hn0 (H.sel' [0] rfl rfl : Hp S0 σ0 _ ([] ++ _))) wn ?_
     rintro _ σ53 ⟨_, ⟨rfl, rfl⟩, H, -⟩
     replace H : Hp _ _ _ [_] := H
     refine st (v := (B (decide (r50 < 0)))) (rv_lss (a := r50) (b := 0) rfl rfl) (st (v := (B (!(decide (r50 < 0))))) (rv_not rfl) (w_end (q_then ?_)))
     refine cd_cond (!(decide (r50 < 0))) rfl (fun hb54 => ?_) (fun hb54 => ?_)
     ·replace h := bif_t hb54 h
      refine c_ret (q_then_r (q_blk_r (q_then_r (q_blk_r ?_))))
      obtain rfl := sj h
      obtain rfl := hres _ rfl
      exact .inr (⟨_, rfl, rfl, _, σ53, fr_join ⟨rfl, trivial⟩, rfl, H.sel' [0] rfl rfl, hn4⟩)
     ·replace h := bif_f hb54 h
      refine c_skip (q_then (c_seq ?_))
      revert h; refine br fun x55 hx56 h => ?_
      obtain ⟨b58, o59, hi57, -⟩ := (H.own 0 rfl).ix hx56
      obtain ⟨_, ⟨_, _, rfl, rfl, rfl⟩, hl60, hc61⟩ := ((H.own 0 rfl).at hx56 hi57).cells
      revert h; refine br fun x62 hx63 h => ?_
      obtain ⟨b65, o66, hi64, -⟩ := (H.own 0 rfl).ix hx63
      obtain ⟨_, ⟨_, _, rfl, rfl, rfl⟩, hl67, hc68⟩ := ((H.own 0 rfl).at hx63 hi64).cells
      revert h; refine br fun x69 hx70 h => ?_
      obtain ⟨b72, o73, hi71, -⟩ := (H.own 0 rfl).ix hx70
      have Hs := H
      refine rg2 (σ := σ53) (Nm := Unit) 22 [21] [[false], [true]] [[(0, 0)], [(0, 0)], [(0, 0)], [(0, 0)], [(0, 0), (1, 1)], [(0, 0), (1, 1)], [(0, 0), (1, 1)], [(0, 0), (1, 1)], [(0, 0)], [(0, 0)], [(0, 0)], [(0, 0)], [(0, 0)], [(0, 0)], [(0, 0)], [(0, 0)], [(0, 0)], [(0, 0)], [(0, 0)], [(0, 0)], [(0, 0)], [(0, 1)]] 1 [fun _ => fun σm => Hp S0 σ0 σm [Ch.own 0 0 (Sl Cj s2.1 Ck) s2.1] ∧ Md (cov []) σ53 σm, fun _ => fun σm => Hp S0 σ0 σm [Ch.own 0 0 (Sl Cj s2.1 Ck) (s2.1.set (w64 (Cn + s2.2)).toNat (x55.1, x55.2))] ∧ Md (fun i => (cov []) i ∨ (fun b => blk (Sl Cj s2.1 Ck) = some b) i) σ53 σm] [fun _ => (Sl Cj s2.1 Ck), fun _ => (I Cn), fun _ => (I s2.2), fun _ => (I (w64 (Cn + s2.2))), fun _ => (Sl Cj s2.1 Ck), fun _ => (I Cn), fun _ => (I o31), fun _ => (I (w64 (Cn + o31))), fun _ => (Sl Cj s2.1 Ck), fun _ => (I Cn), fun _ => (I o31), fun _ => (I (w64 (Cn + o31))), fun _ => (pt b58 o59), fun _ => (.agg #[(I x55.1), (I x55.2)]), fun _ => (Sl Cj s2.1 Ck), fun _ => (I Cn), fun _ => (I s2.2), fun _ => (I (w64 (Cn + s2.2))), fun _ => (pt b65 o66), fun _ => (.agg #[(I x62.1), (I x62.2)]), fun _ => (pt b72 o73), fun _ => undef] () (by kernel_rfl) (by kernel_rfl) ?_ ?_ ?_
      ·intro σm m0
       exact ⟨H.grow (m0.mono fun _ h => h.elim), m0⟩
      ·refine ac rfl (by
         intro k _nm ρ σm hJ hoff hdep
         have e0 := look_off (N := 82) (hoff 0 rfl) rfl
         exact dp_v (v := (Sl Cj s2.1 Ck)) wn (rv_move e0) rfl hJ) ?_
       refine ac rfl (by
         intro k _nm ρ σm hJ hoff hdep
         have e3 := look_off (N := 82) (hoff 3 rfl) rfl
         exact dp_v (v := (I Cn)) wn (rv_move e3) rfl hJ) ?_
       refine ac rfl (by
         intro k _nm ρ σm hJ hoff hdep
         have e10 := look_off (N := 82) (hoff 10 rfl) rfl
         exact dp_v (v := (I s2.2)) wn (rv_move e10) rfl hJ) ?_
       refine ac rfl (by
         intro k _nm ρ σm hJ hoff hdep
         have e60 := hdep 1 rfl rfl 60 rfl
         have e61 := hdep 2 rfl rfl 61 rfl
         exact dp_v (v := (I (w64 (Cn + s2.2)))) wn (rv_add (a := Cn) (b := s2.2) e60 e61) rfl hJ) ?_
       refine ac rfl (by
         intro k _nm ρ σm hJ hoff hdep
         have e0 := look_off (N := 82) (hoff 0 rfl) rfl
         exact dp_v (v := (Sl Cj s2.1 Ck)) wn (rv_move e0) rfl hJ) ?_
       refine ac rfl (by
         intro k _nm ρ σm hJ hoff hdep
         have e3 := look_off (N := 82) (hoff 3 rfl) rfl
         exact dp_v (v := (I Cn)) wn (rv_move e3) rfl hJ) ?_
       refine ac rfl (by
         intro k _nm ρ σm hJ hoff hdep
         have e11 := look_off (N := 82) (hoff 11 rfl) rfl
         exact dp_v (v := (I o31)) wn (rv_move e11) rfl hJ) ?_
       refine ac rfl (by
         intro k _nm ρ σm hJ hoff hdep
         have e64 := hdep 5 rfl rfl 64 rfl
         have e65 := hdep 6 rfl rfl 65 rfl
         exact dp_v (v := (I (w64 (Cn + o31)))) wn (rv_add (a := Cn) (b := o31) e64 e65) rfl hJ) ?_
       refine ac rfl (by
         intro k _nm ρ σm hJ hoff hdep
         have e0 := look_off (N := 82) (hoff 0 rfl) rfl
         exact dp_v (v := (Sl Cj s2.1 Ck)) wn (rv_move e0) rfl hJ) ?_
       refine ac rfl (by
         intro k _nm ρ σm hJ hoff hdep
         have e3 := look_off (N := 82) (hoff 3 rfl) rfl
         exact dp_v (v := (I Cn)) wn (rv_move e3) rfl hJ) ?_
       refine ac rfl (by
         intro k _nm ρ σm hJ hoff hdep
         have e11 := look_off (N := 82) (hoff 11 rfl) rfl
         exact dp_v (v := (I o31)) wn (rv_move e11) rfl hJ) ?_
       refine ac rfl (by
         intro k _nm ρ σm hJ hoff hdep
         have e68 := hdep 9 rfl rfl 68 rfl
         have e69 := hdep 10 rfl rfl 69 rfl
         exact dp_v (v := (I (w64 (Cn + o31)))) wn (rv_add (a := Cn) (b := o31) e68 e69) rfl hJ) ?_
       refine ac rfl (by
         intro k _nm ρ σm hJ hoff hdep
         have e67 := hdep 8 rfl rfl 67 rfl
         have e70 := hdep 11 rfl rfl 70 rfl
         exact dp_v (v := (pt b58 o59)) wn (rv_ix Tryz.underlying27 ti38 e67 e70 hi57) rfl hJ) ?_
       refine all_cons (by
         refine ⟨?_, ?_⟩
         ·intro _nm ρ σm hJ hoff hdep
          have e71 := hdep 12 rfl rfl 71 rfl
          obtain ⟨H, m⟩ := id hJ
          obtain ⟨_, ⟨_, _, rfl, rfl, rfl⟩, hl60, hc61⟩ := ((H.own 0 rfl).at hx56 hi57).cells
          exact dp_v (v := (.agg #[(I x55.1), (I x55.2)])) wn (rv_load Tryz.underlying38 rfl ti38 e71 hl60 hc61) rfl hJ
         trivial) ?_
       refine ac rfl (by
         intro k _nm ρ σm hJ hoff hdep
         have e0 := look_off (N := 82) (hoff 0 rfl) rfl
         exact dp_v (v := (Sl Cj s2.1 Ck)) wn (rv_move e0) rfl hJ) ?_
       refine ac rfl (by
         intro k _nm ρ σm hJ hoff hdep
         have e3 := look_off (N := 82) (hoff 3 rfl) rfl
         exact dp_v (v := (I Cn)) wn (rv_move e3) rfl hJ) ?_
       refine ac rfl (by
         intro k _nm ρ σm hJ hoff hdep
         have e10 := look_off (N := 82) (hoff 10 rfl) rfl
         exact dp_v (v := (I s2.2)) wn (rv_move e10) rfl hJ) ?_
       refine ac rfl (by
         intro k _nm ρ σm hJ hoff hdep
         have e74 := hdep 15 rfl rfl 74 rfl
         have e75 := hdep 16 rfl rfl 75 rfl
         exact dp_v (v := (I (w64 (Cn + s2.2)))) wn (rv_add (a := Cn) (b := s2.2) e74 e75) rfl hJ) ?_
       refine ac rfl (by
         intro k _nm ρ σm hJ hoff hdep
         have e73 := hdep 14 rfl rfl 73 rfl
         have e76 := hdep 17 rfl rfl 76 rfl
         exact dp_v (v := (pt b65 o66)) wn (rv_ix Tryz.underlying27 ti38 e73 e76 hi64) rfl hJ) ?_
       refine all_cons (by
         refine ⟨?_, ?_⟩
         ·intro _nm ρ σm hJ hoff hdep
          have e77 := hdep 18 rfl rfl 77 rfl
          obtain ⟨H, m⟩ := id hJ
          obtain ⟨_, ⟨_, _, rfl, rfl, rfl⟩, hl67, hc68⟩ := ((H.own 0 rfl).at hx63 hi64).cells
          exact dp_v (v := (.agg #[(I x62.1), (I x62.2)])) wn (rv_load Tryz.underlying38 rfl ti38 e77 hl67 hc68) rfl hJ
         trivial) ?_
       refine ac rfl (by
         intro k _nm ρ σm hJ hoff hdep
         have e59 := hdep 0 rfl rfl 59 rfl
         have e62 := hdep 3 rfl rfl 62 rfl
         exact dp_v (v := (pt b72 o73)) wn (rv_ix Tryz.underlying27 ti38 e59 e62 hi71) rfl hJ) ?_
       refine all_cons (by
         refine ⟨?_, ?_⟩
         ·intro _nm ρ σm hJ hoff hdep
          have e79 := hdep 20 rfl rfl 79 rfl
          have e72 := hdep 13 rfl rfl 72 rfl
          obtain ⟨H, m⟩ := id hJ
          refine dp_exS wn rfl (ex_store_own (e' := (x55.1, x55.2)) (vs := [(I x55.1), (I x55.2)]) (k := 0) H (i := 0) rfl ti38 hx70 hi71 e79 rfl e72 rfl rfl (Nat.le_of_ble_eq_true rfl) (by simp [plain]) (by rintro _ ⟨_, _, rfl, rfl, rfl⟩; exact ⟨[(I x55.1)], [(I x55.2)], rfl, rfl, rfl⟩)) ?_
          rintro σq ⟨H2, m2⟩
          exact ⟨_, (), rfl, ⟨H2.sel' [0] rfl rfl, m.comp m2⟩, stab [0, 1, 2, 3, 4, 5, 6, 7, 8, 9, 10, 11, 12, 13, 14, 15, 16, 17, 18, 19, 20] (by kernel_rfl) ⟨rfl, rfl, rfl, rfl, rfl, rfl, rfl, rfl, rfl, rfl, rfl, rfl, rfl, rfl, rfl, rfl, rfl, rfl, rfl, rfl, rfl, trivial⟩⟩
         trivial) ?_
       exact all_nil
      ·intro _nm ρ σ74 hJ hoff hrel
       have e0 := look_off (N := 82) (hoff 0 rfl) rfl
       have e2 := look_off (N := 82) (hoff 2 rfl) rfl
       have e3 := look_off (N := 82) (hoff 3 rfl) rfl
       have e4 := look_off (N := 82) (hoff 4 rfl) rfl
       have e11 := look_off (N := 82) (hoff 11 rfl) rfl
       have e63 := hrel 4 rfl 63 rfl
       have e66 := hrel 7 rfl 66 rfl
       have e78 := hrel 19 rfl 78 rfl
       obtain ⟨H, -⟩ := (show Hp S0 σ0 σ74 [Ch.own 0 0 (Sl Cj s2.1 Ck) (s2.1.set (w64 (Cn + s2.2)).toNat (x55.1, x55.2))] ∧ Md (fun i => (cov []) i ∨ (fun b => blk (Sl Cj s2.1 Ck) = some b) i) σ53 σ74 from hJ)
       clear hJ Hs
       rw [fr_lookL (L := [(0, (Sl Cj s2.1 Ck)), (2, (I Cm)), (3, (I Cn)), (4, (.func (.func 72) #[] #[])), (11, (I o31)), (63, (Sl Cj s2.1 Ck)), (66, (I (w64 (Cn + o31)))), (78, (.agg #[(I x62.1), (I x62.2)]))]) ⟨e0, e2, e3, e4, e11, e63, e66, e78, trivial⟩]
       clear hoff hrel e0 e2 e3 e4 e11 e63 e66 e78
       have hsl : (Sl Cj s2.1 Ck) = (Sl Cj (s2.1.set (w64 (Cn + s2.2)).toNat (x55.1, x55.2)) Ck) := sl_len (by simp)
       rw [hsl]; rw [hsl] at H; clear hsl
       revert h; refine br fun x75 hx76 h => ?_
       obtain ⟨b78, o79, hi77, -⟩ := (H.own 0 rfl).ix hx76
       refine st (v := (pt b78 o79)) (rv_ix Tryz.underlying27 ti38 rfl rfl hi77) ?_
       refine st_exS (ex_store_own (e' := (x62.1, x62.2)) (vs := [(I x62.1), (I x62.2)]) (k := 0) H (i := 0) rfl ti38 hx76 hi77 rfl rfl rfl rfl rfl (Nat.le_of_ble_eq_true rfl) (by simp [plain]) (by rintro _ ⟨_, _, rfl, rfl, rfl⟩; exact ⟨[(I x62.1)], [(I x62.2)], rfl, rfl, rfl⟩)) wn ?_
       rintro σ80 ⟨H, -⟩
       have hsl : (Sl Cj (s2.1.set (w64 (Cn + s2.2)).toNat (x55.1, x55.2)) Ck) = (Sl Cj ((s2.1.set (w64 (Cn + s2.2)).toNat (x55.1, x55.2)).set (w64 (Cn + o31)).toNat (x62.1, x62.2)) Ck) := sl_len List.length_set.symm
       rw [hsl]; rw [hsl] at H; clear hsl
       refine w_end (q_then (rg (sm (I o31) rfl (sa (I o31) rfl (w_end (q_blk (q_then ?_)))))))
       obtain rfl := sj h
       exact ⟨_, rfl, _, σ80, fr_join ⟨rfl, rfl, rfl, rfl, rfl, trivial⟩, rfl, H.sel' [0] rfl rfl, (List.length_set.trans (List.length_set.trans hn4))⟩
 ·clear hj
  have h := h'
  clear h' H
  rintro e a w (⟨t81, rfl, rfl, ρ, σ82, rfl, rfl, H, hn83⟩ | ⟨t84, rfl, rfl, ρ, σ85, rfl, rfl, H, hn86⟩)
  ·replace h := selim_l h
   obtain rfl := sj h
   exact fin_end (v := (.tuple #[])) (results_ok Tryz.results154 res_nil rfl) ⟨rfl, rfl, hn83⟩ (H.sel' [0] rfl rfl)
  ·replace h := selim_r h
   obtain rfl := sj h
   exact fin_ret (v := (.tuple #[])) (results_ok Tryz.results154 res_nil rfl) ⟨rfl, rfl, hn86⟩ (H.sel' [0] rfl rfl)

end Go.Vs
