/- The functions compute what their models say. -/
import Derived.Test.YtmgifhehikeplaaKMoveCentresAloneM
import Derived.Test.YtmgifhehikeplaaMoveCentresAloneEng1
import Derived.Test.YtmgifhehikeplaaProg
set_option linter.unusedVariables false
set_option linter.unusedSimpArgs false
set_option maxRecDepth 20000
namespace Go.Vs
open Go Go.Proofs
attribute [local irreducible] Code.wp Code.wpIn wpList wpListIn wpQuiet Calls CallsIn

theorem ti3 : TI Try.prog 3 (.int .i64 0) 1 8 := TI.mk' (by kernel_rfl)
theorem ti5 : TI Try.prog 5 (.int .u8 0) 1 1 := TI.mk' (by kernel_rfl)
theorem ti22 : TI Try.prog 22 (.slice none 0 0) 1 24 := TI.mk' (by kernel_rfl)
theorem ti27 : TI Try.prog 27 (.slice none 0 0) 1 24 := TI.mk' (by kernel_rfl)
theorem ti33 : TI Try.prog 33 (.slice none 0 0) 1 24 := TI.mk' (by kernel_rfl)
theorem ti38 : TI Try.prog 38 (.agg #[(.int .i64 0), (.slice none 0 0), (.int .i64 0)]) 3 40 := TI.mk' (by kernel_rfl)
theorem ti54 : TI Try.prog 54 (.agg #[(.int .i64 0), (.int .i64 0), (.int .i64 0), (.int .i64 0)]) 4 32 := TI.mk' (by kernel_rfl)
theorem ti71 : TI Try.prog 71 (.agg #[(.slice none 0 0), (.int .i64 0)]) 2 32 := TI.mk' (by kernel_rfl)
theorem bp38 {fs : Array Field} (hT : Try.prog.underlying 38 = some (.struct fs)) (w : World) : (fs.mapM (fun f => do pure (f.offset, ← sizeOf f.type)) : Sem (Array (Nat × Nat))).run Try.prog w = .ok #[(0, 1), (1, 1), (2, 1)] w := by
  rw [Try.underlying38] at hT; cases hT
  simp [run_typeInfo ti27, run_typeInfo ti3]
theorem bp71 {fs : Array Field} (hT : Try.prog.underlying 71 = some (.struct fs)) (w : World) : (fs.mapM (fun f => do pure (f.offset, ← sizeOf f.type)) : Sem (Array (Nat × Nat))).run Try.prog w = .ok #[(0, 1), (1, 1)] w := by
  rw [Try.underlying71] at hT; cases hT
  simp [run_typeInfo ti22, run_typeInfo ti3]

theorem c_laws_equalInts {Aa : List Int} {Ac : List Int} {Ad : Option Addr} {Ae : Nat} {Af : Option Addr} {Ag : Nat} {r : Bool} (h : M.laws_equalInts Aa Ac = some r) :
    Cal2 Try.prog 22 [(Sl Ad Aa Ae), (Sl Af Ac Ag)] [Ch.ro 0 (Sl Ad Aa Ae) Aa, Ch.ro 0 (Sl Af Ac Ag) Ac] (fun n0 v L => v = (B r) ∧ L = []) := by
 refine cal2 (n := 26) Try.func22 rfl rfl rfl rfl ?_
 intro S0 σ0 n0 hn0 H
 unfold M.laws_equalInts at h
 refine c_seq (rg (st (v := (B false)) (rv_assign rfl) (w_end (q_then (c_seq (c_seq (rg (st (v := (Sl Ad Aa Ae)) (rv_move rfl) (st (v := (I (Aa.length : Int))) (rv_len Try.underlying27 rfl) (st (v := (Sl Af Ac Ag)) (rv_move rfl) (st (v := (I (Ac.length : Int))) (rv_len Try.underlying27 rfl) ?_)))))))))))
 refine st (v := (B ((Aa.length : Int) != (Ac.length : Int)))) (rv_neq (a := (Aa.length : Int)) (b := (Ac.length : Int)) rfl rfl) (w_end (q_then ?_))
 refine cd_cond ((Aa.length : Int) != (Ac.length : Int)) rfl (fun hb1 => ?_) (fun hb1 => ?_)
 ·replace h := bif_t hb1 h
  refine c_seq (rg (st (v := (B false)) (rv_assign rfl) (w_end (q_then (c_ret (q_then_r ?_))))))
  obtain rfl := Option.some.inj h
  exact fin_ret (v := (B false)) (results_ok Try.results22 (res_tmp (v := (B false)) rfl res_nil) rfl) ⟨rfl, rfl⟩ (H.sel' [] rfl rfl)
 ·replace h := bif_f hb1 h
  refine c_skip (q_then (c_seq (c_seq (rg (st (v := (I 0)) (rv_assign rfl) (w_end (q_then ?_)))))))
  obtain ⟨o2, hj, h'⟩ := bind_some h
  clear h
  refine c_cut (fun e a w => (∃ t, o2 = (.inl t) ∧ e = .normal ∧ ∃ (ρ : Nat → Value) (σ : St), a = fr 26 (updL ρ []) ∧ w = σ.w ∧ Hp S0 σ0 σ []) ∨ (∃ t, o2 = (.inr t) ∧ e = .ret ∧ ∃ (ρ : Nat → Value) (σ : St), a = fr 26 (updL ρ [(4, (B t))]) ∧ w = σ.w ∧ Hp S0 σ0 σ [])) ?_ ?_
  ·clear h'
   rename _ = some o2 => h
   refine c_blk (wp_loopM _ h (fun s3 a w => ∃ (ρ : Nat → Value) (σ : St), a = fr 26 (updL ρ [(0, (Sl Ad Aa Ae)), (1, (Sl Af Ac Ag)), (5, (I s3))]) ∧ w = σ.w ∧ Hp S0 σ0 σ [Ch.ro 0 (Sl Ad Aa Ae) Aa, Ch.ro 0 (Sl Af Ac Ag) Ac]) ⟨_, σ0, fr_join ⟨rfl, rfl, rfl, trivial⟩, rfl, H.sel' [0, 1] rfl rfl⟩ ?_)
   clear h H
   rintro s3 a w o ⟨ρ, σ4, rfl, rfl, H⟩ h hres
   refine c_seq (c_seq (rg (st (v := (I s3)) (rv_move rfl) (st (v := (Sl Ad Aa Ae)) (rv_move rfl) (st (v := (I (Aa.length : Int))) (rv_len Try.underlying27 rfl) (st (v := (B (decide (s3 < (Aa.length : Int))))) (rv_lss (a := s3) (b := (Aa.length : Int)) rfl rfl) (w_end (q_then ?_))))))))
   refine cd_cond (decide (s3 < (Aa.length : Int))) rfl (fun hb5 => ?_) (fun hb5 => ?_)
   ·replace h := bif_t hb5 h
    refine c_skip (q_then (c_seq (c_blk (c_seq ?_))))
    refine rgP (σ := σ4) 8 (by kernel_rfl) (by kernel_rfl) (by kernel_rfl) ?_
    refine sq (v := (Sl Ad Aa Ae)) (rv_move rfl) (sq (v := (I s3)) (rv_move rfl) ?_)
    obtain ⟨x6, hx7, h'⟩ := bind_some h
    clear h
    have h := h'; clear h'
    obtain ⟨b9, o10, hi8, -⟩ := (H.ro 0 rfl).ix hx7
    refine sq (v := (pt b9 o10)) (rv_ix Try.underlying27 ti3 rfl rfl hi8) ?_
    have hc11 := ((H.ro 0 rfl).at hx7 hi8).int
    refine sq (v := (I x6)) (rv_load1 Try.underlying3 rfl rfl hc11) (sq (v := (Sl Af Ac Ag)) (rv_move rfl) (sq (v := (I s3)) (rv_move rfl) ?_))
    obtain ⟨x12, hx13, h'⟩ := bind_some h
    clear h
    have h := h'; clear h'
    obtain ⟨b15, o16, hi14, -⟩ := (H.ro 1 rfl).ix hx13
    refine sq (v := (pt b15 o16)) (rv_ix Try.underlying27 ti3 rfl rfl hi14) ?_
    have hc17 := ((H.ro 1 rfl).at hx13 hi14).int
    refine sq (v := (I x12)) (rv_load1 Try.underlying3 rfl rfl hc17) (sq_end ?_)
    intro σ18 hm19
    replace H := H.grow (hm19.mono fun _ h => h); clear hm19
    refine st (v := (B (x6 != x12))) (rv_neq (a := x6) (b := x12) rfl rfl) (w_end (q_then ?_))
    refine cd_cond (x6 != x12) rfl (fun hb20 => ?_) (fun hb20 => ?_)
    ·replace h := bif_t hb20 h
     refine c_seq (rg (st (v := (B false)) (rv_assign rfl) (w_end (q_then (c_ret (q_blk_r (q_then_r (q_then_r (q_blk_r ?_)))))))))
     obtain rfl := Option.some.inj h
     obtain rfl := hres _ rfl
     exact .inr (⟨_, rfl, rfl, _, σ18, fr_join ⟨rfl, trivial⟩, rfl, H.sel' [] rfl rfl⟩)
    ·replace h := bif_f hb20 h
     refine c_skip (q_blk (q_then (rg (st (v := (I s3)) (rv_move rfl) (st (v := (I (w64 (s3 + 1)))) (rv_add (a := s3) (b := 1) rfl rfl) (st (v := (I (w64 (s3 + 1)))) (rv_assign rfl) (w_end (q_then ?_))))))))
     obtain rfl := Option.some.inj h
     exact ⟨_, rfl, _, σ18, fr_join ⟨rfl, rfl, rfl, trivial⟩, rfl, H.sel' [0, 1] rfl rfl⟩
   ·replace h := bif_f hb5 h
    refine c_exit (q_then_x (q_then_x (q_blk_hit ?_)))
    obtain rfl := Option.some.inj h
    obtain rfl := hres _ rfl
    exact .inl ⟨_, rfl, rfl, _, σ4, fr_join trivial, rfl, H.sel' [] rfl rfl⟩
  ·clear hj
   have h := h'
   clear h' H
   rintro e a w (⟨t21, rfl, rfl, ρ, σ22, rfl, rfl, H⟩ | ⟨t23, rfl, rfl, ρ, σ24, rfl, rfl, H⟩)
   ·replace h := selim_l h
    refine q_then (c_seq (rg (st (v := (B true)) (rv_assign rfl) (w_end (q_then (c_ret ?_))))))
    obtain rfl := Option.some.inj h
    exact fin_ret (v := (B true)) (results_ok Try.results22 (res_tmp (v := (B true)) rfl res_nil) rfl) ⟨rfl, rfl⟩ (H.sel' [] rfl rfl)
   ·replace h := selim_r h
    refine q_then_r ?_
    obtain rfl := Option.some.inj h
    exact fin_ret (v := (B t23)) (results_ok Try.results22 (res_tmp (v := (B t23)) rfl res_nil) rfl) ⟨rfl, rfl⟩ (H.sel' [] rfl rfl)

theorem c_impl_ValidVector {Ah : List Int} {Ai : Option Addr} {Aj : Nat} {r : Bool} (h : M.impl_ValidVector Ah = some r) :
    Cal2 Try.prog 44 [(Sl Ai Ah Aj)] [Ch.ro 0 (Sl Ai Ah Aj) Ah] (fun n0 v L => v = (B r) ∧ L = []) := by
 refine cal2 (n := 21) Try.func44 rfl rfl rfl rfl ?_
 intro S0 σ0 n0 hn0 H
 unfold M.impl_ValidVector at h
 refine c_seq (rg (st (v := (B false)) (rv_assign rfl) (w_end (q_then (c_seq (c_seq (rg (st (v := (Sl Ai Ah Aj)) (rv_move rfl) (st (v := (I (Ah.length : Int))) (rv_len Try.underlying27 rfl) (st (v := (B ((Ah.length : Int) != 4))) (rv_neq (a := (Ah.length : Int)) (b := 4) rfl rfl) (w_end ?_)))))))))))
 refine q_then ?_
 refine cd_cond ((Ah.length : Int) != 4) rfl (fun hb1 => ?_) (fun hb1 => ?_)
 ·replace h := bif_t hb1 h
  refine c_seq (rg (st (v := (B false)) (rv_assign rfl) (w_end (q_then (c_ret (q_then_r ?_))))))
  obtain rfl := Option.some.inj h
  exact fin_ret (v := (B false)) (results_ok Try.results44 (res_tmp (v := (B false)) rfl res_nil) rfl) ⟨rfl, rfl⟩ (H.sel' [] rfl rfl)
 ·replace h := bif_f hb1 h
  refine c_skip (q_then (c_seq (c_seq (rg (st (v := (Sl Ai Ah Aj)) (rv_move rfl) (st (v := (I (Ah.length : Int))) (rv_len Try.underlying27 rfl) (st (v := (I 0)) (rv_move rfl) (w_end (q_then ?_)))))))))
  obtain ⟨o2, hj, h'⟩ := bind_some h
  clear h
  refine c_cut (fun e a w => (∃ t, o2 = (.inl t) ∧ e = .normal ∧ ∃ (ρ : Nat → Value) (σ : St), a = fr 21 (updL ρ []) ∧ w = σ.w ∧ Hp S0 σ0 σ []) ∨ (∃ t, o2 = (.inr t) ∧ e = .ret ∧ ∃ (ρ : Nat → Value) (σ : St), a = fr 21 (updL ρ [(2, (B t))]) ∧ w = σ.w ∧ Hp S0 σ0 σ [])) ?_ ?_
  ·clear h'
   rename _ = some o2 => h
   refine c_blk (wp_loopM _ h (fun s3 a w => ∃ (ρ : Nat → Value) (σ : St), a = fr 21 (updL ρ [(8, (Sl Ai Ah Aj)), (9, (I (Ah.length : Int))), (10, (I s3))]) ∧ w = σ.w ∧ Hp S0 σ0 σ [Ch.ro 0 (Sl Ai Ah Aj) Ah]) ⟨_, σ0, fr_join ⟨rfl, rfl, rfl, trivial⟩, rfl, H.sel' [0] rfl rfl⟩ ?_)
   clear h H
   rintro s3 a w o ⟨ρ, σ4, rfl, rfl, H⟩ h hres
   refine c_seq (rg (st (v := (B (decide (s3 < (Ah.length : Int))))) (rv_lss (a := s3) (b := (Ah.length : Int)) rfl rfl) (w_end (q_then (c_seq ?_)))))
   refine cd_cond (decide (s3 < (Ah.length : Int))) rfl (fun hb5 => ?_) (fun hb5 => ?_)
   ·replace h := bif_t hb5 h
    refine c_skip (q_then (c_seq (c_blk (c_seq (rg ?_)))))
    obtain ⟨x6, hx7, h'⟩ := bind_some h
    clear h
    have h := h'; clear h'
    obtain ⟨b9, o10, hi8, -⟩ := (H.ro 0 rfl).ix hx7
    refine st (v := (pt b9 o10)) (rv_ix Try.underlying27 ti3 rfl rfl hi8) ?_
    have hc11 := ((H.ro 0 rfl).at hx7 hi8).int
    refine st (v := (I x6)) (rv_load1 Try.underlying3 rfl rfl hc11) (st (v := (I x6)) (rv_assign rfl) (w_end (q_then (c_seq ?_))))
    obtain ⟨o12, hj, h'⟩ := bind_some h
    clear h
    refine c_cut (fun e a w => e = .normal ∧ ∃ (ρ : Nat → Value) (σ : St), a = fr 21 (updL ρ [(8, (Sl Ai Ah Aj)), (9, (I (Ah.length : Int))), (10, (I s3)), (19, (B o12))]) ∧ w = σ.w ∧ Hp S0 σ0 σ [Ch.ro 0 (Sl Ai Ah Aj) Ah]) ?_ ?_
    ·clear h'
     rename _ = some o12 => h
     refine rg (st (v := (I x6)) (rv_move rfl) (st (v := (B (decide (x6 < (-100))))) (rv_lss (a := x6) (b := (-100)) rfl rfl) (st (v := (B (decide (x6 < (-100))))) (rv_move rfl) ?_)))
     rcases Bool.eq_false_or_eq_true (decide (x6 < (-100))) with hb13 | hb13
     ·replace h := bif_t hb13 h
      refine st_skip (congrArg some hb13) (st_skip (congrArg some hb13) (st (v := (B true)) (rv_pick_t (congrArg B hb13) rfl) (w_end ?_)))
      obtain rfl := Option.some.inj h
      exact ⟨rfl, _, σ4, fr_join ⟨rfl, rfl, rfl, rfl, trivial⟩, rfl, H.sel' [0] rfl rfl⟩
     ·replace h := bif_f hb13 h
      refine st_g (v := (I x6)) (congrArg some hb13) (rv_move rfl) (st_g (v := (B (decide (100 < x6)))) (congrArg some hb13) (rv_gtr (a := x6) (b := 100) rfl rfl) (st (v := (B (decide (100 < x6)))) (rv_pick_f (congrArg B hb13) rfl) (w_end ?_)))
      obtain rfl := Option.some.inj h
      exact ⟨rfl, _, σ4, fr_join ⟨rfl, rfl, rfl, rfl, trivial⟩, rfl, H.sel' [0] rfl rfl⟩
    ·clear hj
     have h := h'
     clear h' H
     rintro e a w ⟨rfl, ρ, σ14, rfl, rfl, H⟩
     refine q_then ?_
     refine cd_cond o12 rfl (fun hb15 => ?_) (fun hb15 => ?_)
     ·replace h := bif_t hb15 h
      refine c_seq (rg (st (v := (B false)) (rv_assign rfl) (w_end (q_then (c_ret (q_blk_r (q_then_r (q_then_r (q_blk_r ?_)))))))))
      obtain rfl := Option.some.inj h
      obtain rfl := hres _ rfl
      exact .inr (⟨_, rfl, rfl, _, σ14, fr_join ⟨rfl, trivial⟩, rfl, H.sel' [] rfl rfl⟩)
     ·replace h := bif_f hb15 h
      refine c_skip (q_blk (q_then (rg (st (v := (I (w64 (s3 + 1)))) (rv_add (a := s3) (b := 1) rfl rfl) (st (v := (I (w64 (s3 + 1)))) (rv_move rfl) (w_end (q_then ?_)))))))
      obtain rfl := Option.some.inj h
      exact ⟨_, rfl, _, σ14, fr_join ⟨rfl, rfl, rfl, trivial⟩, rfl, H.sel' [0] rfl rfl⟩
   ·replace h := bif_f hb5 h
    refine c_exit (q_then_x (q_then_x (q_blk_hit ?_)))
    obtain rfl := Option.some.inj h
    obtain rfl := hres _ rfl
    exact .inl ⟨_, rfl, rfl, _, σ4, fr_join trivial, rfl, H.sel' [] rfl rfl⟩
  ·clear hj
   have h := h'
   clear h' H
   rintro e a w (⟨t16, rfl, rfl, ρ, σ17, rfl, rfl, H⟩ | ⟨t18, rfl, rfl, ρ, σ19, rfl, rfl, H⟩)
   ·replace h := selim_l h
    refine q_then (c_seq (rg (st (v := (B true)) (rv_assign rfl) (w_end (q_then (c_ret ?_))))))
    obtain rfl := Option.some.inj h
    exact fin_ret (v := (B true)) (results_ok Try.results44 (res_tmp (v := (B true)) rfl res_nil) rfl) ⟨rfl, rfl⟩ (H.sel' [] rfl rfl)
   ·replace h := selim_r h
    refine q_then_r ?_
    obtain rfl := Option.some.inj h
    exact fin_ret (v := (B t18)) (results_ok Try.results44 (res_tmp (v := (B t18)) rfl res_nil) rfl) ⟨rfl, rfl⟩ (H.sel' [] rfl rfl)

theorem c_impl_ValidCentres {Ak : List (List Int)} {Am : Option Addr} {Ao : Nat} {r : Bool} (h : M.impl_ValidCentres Ak = some r) :
    Cal2 Try.prog 16 [(Sl Am Ak Ao)] [Ch.ro 0 (Sl Am Ak Ao) Ak] (fun n0 v L => v = (B r) ∧ L = []) := by
 refine cal2 (n := 23) Try.func16 rfl rfl rfl rfl ?_
 intro S0 σ0 n0 hn0 H
 unfold M.impl_ValidCentres at h
 refine c_seq (rg (st (v := (B false)) (rv_assign rfl) (w_end (q_then (c_seq (c_seq ?_))))))
 obtain ⟨o1, hj, h'⟩ := bind_some h
 clear h
 refine c_cut (fun e a w => e = .normal ∧ ∃ (ρ : Nat → Value) (σ : St), a = fr 23 (updL ρ [(0, (Sl Am Ak Ao)), (12, (B o1))]) ∧ w = σ.w ∧ Hp S0 σ0 σ [Ch.ro 0 (Sl Am Ak Ao) Ak]) ?_ ?_
 ·clear h'
  rename _ = some o1 => h
  refine rg (st (v := (Sl Am Ak Ao)) (rv_move rfl) (st (v := (I (Ak.length : Int))) (rv_len Try.underlying23 rfl) (st (v := (B (decide ((Ak.length : Int) < 1)))) (rv_lss (a := (Ak.length : Int)) (b := 1) rfl rfl) (st (v := (B (decide ((Ak.length : Int) < 1)))) (rv_move rfl) ?_))))
  rcases Bool.eq_false_or_eq_true (decide ((Ak.length : Int) < 1)) with hb2 | hb2
  ·replace h := bif_t hb2 h
   refine st_skip (congrArg some hb2) (st_skip (congrArg some hb2) (st_skip (congrArg some hb2) (st (v := (B true)) (rv_pick_t (congrArg B hb2) rfl) (w_end ?_))))
   obtain rfl := Option.some.inj h
   exact ⟨rfl, _, σ0, fr_join ⟨rfl, rfl, trivial⟩, rfl, H.sel' [0] rfl rfl⟩
  ·replace h := bif_f hb2 h
   refine st_g (v := (Sl Am Ak Ao)) (congrArg some hb2) (rv_move rfl) (st_g (v := (I (Ak.length : Int))) (congrArg some hb2) (rv_len Try.underlying23 rfl) (st_g (v := (B (decide (4 < (Ak.length : Int))))) (congrArg some hb2) (rv_gtr (a := (Ak.length : Int)) (b := 4) rfl rfl) (st (v := (B (decide (4 < (Ak.length : Int))))) (rv_pick_f (congrArg B hb2) rfl) (w_end ?_))))
   obtain rfl := Option.some.inj h
   exact ⟨rfl, _, σ0, fr_join ⟨rfl, rfl, trivial⟩, rfl, H.sel' [0] rfl rfl⟩
 ·clear hj
  have h := h'
  clear h' H
  rintro e a w ⟨rfl, ρ, σ3, rfl, rfl, H⟩
  refine q_then ?_
  refine cd_cond o1 rfl (fun hb4 => ?_) (fun hb4 => ?_)
  ·replace h := bif_t hb4 h
   refine c_seq (rg (st (v := (B false)) (rv_assign rfl) (w_end (q_then (c_ret (q_then_r ?_))))))
   obtain rfl := Option.some.inj h
   exact fin_ret (v := (B false)) (results_ok Try.results16 (res_tmp (v := (B false)) rfl res_nil) rfl) ⟨rfl, rfl⟩ (H.sel' [] rfl rfl)
  ·replace h := bif_f hb4 h
   refine c_skip (q_then (c_seq (c_seq (rg (st (v := (Sl Am Ak Ao)) (rv_move rfl) (st (v := (I (Ak.length : Int))) (rv_len Try.underlying23 rfl) (st (v := (I 0)) (rv_move rfl) (w_end (q_then ?_)))))))))
   obtain ⟨o5, hj, h'⟩ := bind_some h
   clear h
   refine c_cut (fun e a w => (∃ t, o5 = (.inl t) ∧ e = .normal ∧ ∃ (ρ : Nat → Value) (σ : St), a = fr 23 (updL ρ []) ∧ w = σ.w ∧ Hp S0 σ0 σ []) ∨ (∃ t, o5 = (.inr t) ∧ e = .ret ∧ ∃ (ρ : Nat → Value) (σ : St), a = fr 23 (updL ρ [(2, (B t))]) ∧ w = σ.w ∧ Hp S0 σ0 σ [])) ?_ ?_
   ·clear h'
    rename _ = some o5 => h
    refine c_blk (wp_loopM _ h (fun s6 a w => ∃ (ρ : Nat → Value) (σ : St), a = fr 23 (updL ρ [(13, (Sl Am Ak Ao)), (14, (I (Ak.length : Int))), (15, (I s6))]) ∧ w = σ.w ∧ Hp S0 σ0 σ [Ch.ro 0 (Sl Am Ak Ao) Ak]) ⟨_, σ3, fr_join ⟨rfl, rfl, rfl, trivial⟩, rfl, H.sel' [0] rfl rfl⟩ ?_)
    clear h H
    rintro s6 a w o ⟨ρ, σ7, rfl, rfl, H⟩ h hres
    refine c_seq (rg (st (v := (B (decide (s6 < (Ak.length : Int))))) (rv_lss (a := s6) (b := (Ak.length : Int)) rfl rfl) (w_end (q_then (c_seq ?_)))))
    refine cd_cond (decide (s6 < (Ak.length : Int))) rfl (fun hb8 => ?_) (fun hb8 => ?_)
    ·replace h := bif_t hb8 h
     refine c_skip (q_then (c_seq (c_blk (c_seq (rg ?_)))))
     obtain ⟨x9, hx10, h'⟩ := bind_some h
     clear h
     have h := h'; clear h'
     obtain ⟨b12, o13, hi11, -⟩ := (H.ro 0 rfl).ix hx10
     refine st (v := (pt b12 o13)) (rv_ix Try.underlying23 ti27 rfl rfl hi11) ?_
     obtain ⟨v17, hc18, hR16⟩ := ((H.ro 0 rfl).at hx10 hi11).slice
     obtain ⟨a14, c15, rfl⟩ := hR16.isSl
     replace H := H.add (d := Ch.ro 0 (Sl a14 x9 c15) x9) hR16 (fun _ h => h)
     clear hR16
     refine st (v := (Sl a14 x9 c15)) (rv_load1 Try.underlying27 rfl rfl hc18) (st (v := (Sl a14 x9 c15)) (rv_assign rfl) (w_end (q_then (c_seq (rg (st (v := (Sl a14 x9 c15)) (rv_move rfl) ?_))))))
     obtain ⟨r19, hx20, h'⟩ := bind_some h
     clear h
     have h := h'; clear h'
     have hc21 := c_impl_ValidVector (Ai := a14) (Aj := c15) hx20
     refine st_call (cx_call hc21 (ent_f hc21.fn rfl) hn0 (H.sel' [0, 0, 1] rfl rfl : Hp S0 σ0 _ ([_] ++ _))) wn ?_
     rintro _ σ22 ⟨_, ⟨rfl, rfl⟩, H, -⟩
     replace H : Hp _ _ _ [_, _] := H
     refine st (v := (B (!r19))) (rv_not rfl) (w_end (q_then ?_))
     refine cd_cond (!r19) rfl (fun hb23 => ?_) (fun hb23 => ?_)
     ·replace h := bif_t hb23 h
      refine c_seq (rg (st (v := (B false)) (rv_assign rfl) (w_end (q_then (c_ret (q_blk_r (q_then_r (q_then_r (q_blk_r ?_)))))))))
      obtain rfl := Option.some.inj h
      obtain rfl := hres _ rfl
      exact .inr (⟨_, rfl, rfl, _, σ22, fr_join ⟨rfl, trivial⟩, rfl, H.sel' [] rfl rfl⟩)
     ·replace h := bif_f hb23 h
      refine c_skip (q_blk (q_then (rg (st (v := (I (w64 (s6 + 1)))) (rv_add (a := s6) (b := 1) rfl rfl) (st (v := (I (w64 (s6 + 1)))) (rv_move rfl) (w_end (q_then ?_)))))))
      obtain rfl := Option.some.inj h
      exact ⟨_, rfl, _, σ22, fr_join ⟨rfl, rfl, rfl, trivial⟩, rfl, H.sel' [1] rfl rfl⟩
    ·replace h := bif_f hb8 h
     refine c_exit (q_then_x (q_then_x (q_blk_hit ?_)))
     obtain rfl := Option.some.inj h
     obtain rfl := hres _ rfl
     exact .inl ⟨_, rfl, rfl, _, σ7, fr_join trivial, rfl, H.sel' [] rfl rfl⟩
   ·clear hj
    have h := h'
    clear h' H
    rintro e a w (⟨t24, rfl, rfl, ρ, σ25, rfl, rfl, H⟩ | ⟨t26, rfl, rfl, ρ, σ27, rfl, rfl, H⟩)
    ·replace h := selim_l h
     refine q_then (c_seq (rg (st (v := (B true)) (rv_assign rfl) (w_end (q_then (c_ret ?_))))))
     obtain rfl := Option.some.inj h
     exact fin_ret (v := (B true)) (results_ok Try.results16 (res_tmp (v := (B true)) rfl res_nil) rfl) ⟨rfl, rfl⟩ (H.sel' [] rfl rfl)
    ·replace h := selim_r h
     refine q_then_r ?_
     obtain rfl := Option.some.inj h
     exact fin_ret (v := (B t26)) (results_ok Try.results16 (res_tmp (v := (B t26)) rfl res_nil) rfl) ⟨rfl, rfl⟩ (H.sel' [] rfl rfl)

theorem c_impl_distanceOf {Ap : Int} {Aq : List Int} (Ar : Aq.length = 4) {r : Int} (h : M.impl_distanceOf Ap Aq = some r) :
    Cal2 Try.prog 49 [(I Ap), (.agg (List.map I Aq).toArray)] [] (fun n0 v L => v = (I r) ∧ L = []) := by
 refine cal2 (n := 38) Try.func49 rfl rfl rfl rfl ?_
 intro S0 σ0 n0 hn0 H
 unfold M.impl_distanceOf at h
 refine c_seq (rg (st_ex (ex_box (cs := (List.map I Aq)) H hn0 rfl rfl) wn ?_))
 rintro _ σ2 ⟨b1, rfl, H, -⟩
 refine st (v := (I 0)) (rv_assign rfl) (w_end (q_then (c_seq (rg (st (v := (I 0)) (rv_assign rfl) (w_end (q_then (c_seq (c_seq (rg ?_))))))))))
 have hc3 := H.cells 0 rfl
 refine st (v := (.agg (List.map I Aq).toArray)) (rv_load (cs := (List.map I Aq)) Try.underlying54 rfl ti54 rfl (by rw [List.length_map]; exact Ar) hc3) ?_
 refine st (v := (I 0)) (rv_move rfl) (w_end (q_then ?_))
 obtain ⟨o4, hj, h'⟩ := bind_some h
 clear h
 refine c_cut (fun e a w => (∃ t, o4 = (.inl t) ∧ e = .normal ∧ ∃ (ρ : Nat → Value) (σ : St), a = fr 38 (updL ρ [(5, (I t))]) ∧ w = σ.w ∧ Hp S0 σ0 σ []) ∨ (∃ t, o4 = (.inr t) ∧ e = .ret ∧ ∃ (ρ : Nat → Value) (σ : St), a = fr 38 (updL ρ [(4, (I t))]) ∧ w = σ.w ∧ Hp S0 σ0 σ [])) ?_ ?_
 ·clear h'
  rename _ = some o4 => h
  refine c_blk (wp_loopM _ h (fun s5 a w => ∃ (ρ : Nat → Value) (σ : St), a = fr 38 (updL ρ [(0, (I Ap)), (5, (I s5.1)), (8, (.agg (List.map I Aq).toArray)), (9, (I s5.2))]) ∧ w = σ.w ∧ Hp S0 σ0 σ []) ⟨_, σ2, fr_join ⟨rfl, rfl, rfl, rfl, trivial⟩, rfl, H.sel' [] rfl rfl⟩ ?_)
  clear h H
  rintro s5 a w o ⟨ρ, σ6, rfl, rfl, H⟩ h hres
  refine c_seq (rg (st (v := (B (decide (s5.2 < 4)))) (rv_lss (a := s5.2) (b := 4) rfl rfl) (w_end (q_then (c_seq ?_)))))
  refine cd_cond (decide (s5.2 < 4)) rfl (fun hb7 => ?_) (fun hb7 => ?_)
  ·replace h := bif_t hb7 h
   refine c_skip (q_then (c_seq ?_))
   obtain ⟨o8, hj, h'⟩ := bind_some h
   clear h
   refine c_cut (fun e a w => (∃ t, o8 = (.inl t) ∧ e = .normal ∧ ∃ (ρ : Nat → Value) (σ : St), a = fr 38 (updL ρ [(0, (I Ap)), (5, (I t)), (8, (.agg (List.map I Aq).toArray)), (9, (I s5.2))]) ∧ w = σ.w ∧ Hp S0 σ0 σ []) ∨ (∃ t, o8 = (.inr t) ∧ e = .ret ∧ ∃ (ρ : Nat → Value) (σ : St), a = fr 38 (updL ρ [(4, (I t))]) ∧ w = σ.w ∧ Hp S0 σ0 σ [])) ?_ ?_
   ·clear h'
    rename _ = some o8 => h
    refine c_blk (c_seq (rg ?_))
    obtain ⟨x9, hx10, h'⟩ := bind_some h
    clear h
    have h := h'; clear h'
    refine st (v := (I x9)) (rv_idx Try.underlying54 ti3 Try.underlying3 rfl rfl hx10 Ar) (st (v := (I x9)) (rv_assign rfl) (w_end (q_then (c_seq (rg (st (v := (I Ap)) (rv_move rfl) (w_end (q_then (c_blk (c_seq (rg ?_)))))))))))
    refine st (v := (B (Ap == 1))) (rv_eql (a := Ap) (b := 1) rfl rfl) (st (v := (B (Ap == 1))) (rv_assign rfl) (w_end (q_then ?_)))
    refine cd_cond (Ap == 1) rfl (fun hb11 => ?_) (fun hb11 => ?_)
    ·replace h := bif_t hb11 h
     refine rg (st (v := (I s5.1)) (rv_move rfl) (st (v := (I x9)) (rv_move rfl) (st (v := (I (w64 (s5.1 + x9)))) (rv_add (a := s5.1) (b := x9) rfl rfl) (st (v := (I (w64 (s5.1 + x9)))) (rv_assign rfl) (w_end (q_blk (q_blk ?_)))))))
     obtain rfl := Option.some.inj h
     exact .inl ⟨_, rfl, rfl, _, σ6, fr_join ⟨rfl, rfl, rfl, rfl, trivial⟩, rfl, H.sel' [] rfl rfl⟩
    ·replace h := bif_f hb11 h
     refine c_seq (rg (st (v := (B (Ap == 2))) (rv_eql (a := Ap) (b := 2) rfl rfl) (st (v := (B (Ap == 2))) (rv_assign rfl) (w_end (q_then ?_)))))
     refine cd_cond (Ap == 2) rfl (fun hb12 => ?_) (fun hb12 => ?_)
     ·replace h := bif_t hb12 h
      refine rg (st (v := (I s5.1)) (rv_move rfl) (st (v := (I x9)) (rv_move rfl) (st (v := (I (max s5.1 x9))) (rv_max rfl rfl) (st (v := (I (max s5.1 x9))) (rv_assign rfl) (w_end (q_blk (q_blk ?_)))))))
      obtain rfl := Option.some.inj h
      exact .inl ⟨_, rfl, rfl, _, σ6, fr_join ⟨rfl, rfl, rfl, rfl, trivial⟩, rfl, H.sel' [] rfl rfl⟩
     ·replace h := bif_f hb12 h
      refine c_seq (rg (st (v := (B (Ap == 3))) (rv_eql (a := Ap) (b := 3) rfl rfl) (st (v := (B (Ap == 3))) (rv_assign rfl) (w_end (q_then ?_)))))
      refine cd_cond (Ap == 3) rfl (fun hb13 => ?_) (fun hb13 => ?_)
      ·replace h := bif_t hb13 h
       refine rg (st (v := (I s5.1)) (rv_move rfl) (st (v := (I x9)) (rv_move rfl) (st (v := (I x9)) (rv_move rfl) (st (v := (I (w64 (x9 * x9)))) (rv_mul (a := x9) (b := x9) rfl rfl) (st (v := (I (w64 (s5.1 + (w64 (x9 * x9)))))) (rv_add (a := s5.1) (b := (w64 (x9 * x9))) rfl rfl) (st (v := (I (w64 (s5.1 + (w64 (x9 * x9)))))) (rv_assign rfl) (w_end (q_blk (q_blk ?_)))))))))
       obtain rfl := Option.some.inj h
       exact .inl ⟨_, rfl, rfl, _, σ6, fr_join ⟨rfl, rfl, rfl, rfl, trivial⟩, rfl, H.sel' [] rfl rfl⟩
      ·replace h := bif_f hb13 h
       refine c_seq (rg (st (v := (B (Ap == 4))) (rv_eql (a := Ap) (b := 4) rfl rfl) (st (v := (B (Ap == 4))) (rv_assign rfl) (w_end (q_then ?_)))))
       refine cd_cond (Ap == 4) rfl (fun hb14 => ?_) (fun hb14 => ?_)
       ·replace h := bif_t hb14 h
        refine rg (st (v := (I s5.1)) (rv_move rfl) (st (v := (I x9)) (rv_move rfl) (st (v := (I (min x9 1))) (rv_min rfl rfl) (st (v := (I (w64 (s5.1 + (min x9 1))))) (rv_add (a := s5.1) (b := (min x9 1)) rfl rfl) (st (v := (I (w64 (s5.1 + (min x9 1))))) (rv_assign rfl) (w_end (q_blk (q_blk ?_))))))))
        obtain rfl := Option.some.inj h
        exact .inl ⟨_, rfl, rfl, _, σ6, fr_join ⟨rfl, rfl, rfl, rfl, trivial⟩, rfl, H.sel' [] rfl rfl⟩
       ·replace h := bif_f hb14 h
        refine c_seq (rg (st (v := (I (-1))) (rv_assign rfl) (w_end (q_then (c_ret (q_blk_r (q_blk_r ?_)))))))
        obtain rfl := Option.some.inj h
        exact .inr (⟨_, rfl, rfl, _, σ6, fr_join ⟨rfl, trivial⟩, rfl, H.sel' [] rfl rfl⟩)
   ·clear hj
    have h := h'
    clear h' H
    rintro e a w (⟨t15, rfl, rfl, ρ, σ16, rfl, rfl, H⟩ | ⟨t17, rfl, rfl, ρ, σ18, rfl, rfl, H⟩)
    ·replace h := selim_l h
     refine q_then (rg (st (v := (I (w64 (s5.2 + 1)))) (rv_add (a := s5.2) (b := 1) rfl rfl) (st (v := (I (w64 (s5.2 + 1)))) (rv_move rfl) (w_end (q_then ?_)))))
     obtain rfl := Option.some.inj h
     exact ⟨_, rfl, _, σ16, fr_join ⟨rfl, rfl, rfl, rfl, trivial⟩, rfl, H.sel' [] rfl rfl⟩
    ·replace h := selim_r h
     refine q_then_r (q_then_r (q_blk_r ?_))
     obtain rfl := Option.some.inj h
     obtain rfl := hres _ rfl
     exact .inr (⟨_, rfl, rfl, _, σ18, fr_join ⟨rfl, trivial⟩, rfl, H.sel' [] rfl rfl⟩)
  ·replace h := bif_f hb7 h
   refine c_exit (q_then_x (q_then_x (q_blk_hit ?_)))
   obtain rfl := Option.some.inj h
   obtain rfl := hres _ rfl
   exact .inl ⟨_, rfl, rfl, _, σ6, fr_join ⟨rfl, trivial⟩, rfl, H.sel' [] rfl rfl⟩
 ·clear hj
  have h := h'
  clear h' H
  rintro e a w (⟨t19, rfl, rfl, ρ, σ20, rfl, rfl, H⟩ | ⟨t21, rfl, rfl, ρ, σ22, rfl, rfl, H⟩)
  ·replace h := selim_l h
   refine q_then (c_seq (rg (st (v := (I t19)) (rv_move rfl) (st (v := (I t19)) (rv_assign rfl) (w_end (q_then (c_ret ?_)))))))
   obtain rfl := Option.some.inj h
   exact fin_ret (v := (I t19)) (results_ok Try.results49 (res_tmp (v := (I t19)) rfl res_nil) rfl) ⟨rfl, rfl⟩ (H.sel' [] rfl rfl)
  ·replace h := selim_r h
   refine q_then_r ?_
   obtain rfl := Option.some.inj h
   exact fin_ret (v := (I t21)) (results_ok Try.results49 (res_tmp (v := (I t21)) rfl res_nil) rfl) ⟨rfl, rfl⟩ (H.sel' [] rfl rfl)

theorem c_impl_gapsOf {Aa : List Int} {Ac : List Int} (As : Aa.length = 4) (Au : Ac.length = 4) {r : (List Int)} (h : M.impl_gapsOf Aa Ac = some r) :
    Cal2 Try.prog 50 [(.agg (List.map I Aa).toArray), (.agg (List.map I Ac).toArray)] [] (fun n0 v L => v = (.agg (List.map I r).toArray) ∧ L = [] ∧ r.length = 4) := by
 refine cal2 (n := 29) Try.func50 rfl rfl rfl rfl ?_
 intro S0 σ0 n0 hn0 H
 unfold M.impl_gapsOf at h
 refine c_seq (rg (st_ex (ex_box (cs := (List.map I Aa)) H hn0 rfl rfl) wn ?_))
 rintro _ σ2 ⟨b1, rfl, H, -⟩
 refine st_ex (ex_box (cs := (List.map I Ac)) H hn0 rfl rfl) wn ?_
 rintro _ σ4 ⟨b3, rfl, H, -⟩
 refine st_ex (ex_alloc (cs := (List.map I (List.replicate 4 0))) H hn0 ti54 rfl) wn ?_
 rintro _ σ6 ⟨b5, rfl, H, -⟩
 refine w_end (q_then (c_seq (rg (st_ex (ex_alloc (cs := (List.map I (List.replicate 4 0))) H hn0 ti54 rfl) wn ?_))))
 rintro _ σ8 ⟨b7, rfl, H, -⟩
 refine w_end (q_then (c_seq (c_seq (rg (st (v := (I 0)) (rv_move rfl) (w_end (q_then ?_)))))))
 obtain ⟨o9, hj, h'⟩ := bind_some h
 clear h
 refine c_cut (fun e a w => e = .normal ∧ ∃ (ρ : Nat → Value) (σ : St), a = fr 29 (updL ρ [(4, (pt b5 0)), (5, (pt b7 0))]) ∧ w = σ.w ∧ Hp S0 σ0 σ [Ch.bx n0 b7 0 (List.map I o9) [] [], Ch.bx n0 b5 0 (List.map I (List.replicate 4 0)) [] []] ∧ o9.length = 4) ?_ ?_
 ·clear h'
  rename _ = some o9 => h
  refine c_blk (wp_loopM _ h (fun s10 a w => ∃ (ρ : Nat → Value) (σ : St), a = fr 29 (updL ρ [(2, (pt b1 0)), (3, (pt b3 0)), (4, (pt b5 0)), (5, (pt b7 0)), (7, (I s10.2))]) ∧ w = σ.w ∧ Hp S0 σ0 σ [Ch.bx n0 b7 0 (List.map I s10.1) [] [], Ch.bx n0 b1 0 (List.map I Aa) [] [], Ch.bx n0 b3 0 (List.map I Ac) [] [], Ch.bx n0 b5 0 (List.map I (List.replicate 4 0)) [] []] ∧ s10.1.length = 4) ⟨_, σ8, fr_join ⟨rfl, rfl, rfl, rfl, rfl, trivial⟩, rfl, H.sel' [0, 3, 2, 1] rfl rfl, rfl⟩ ?_)
  clear h H
  rintro s10 a w o ⟨ρ, σ11, rfl, rfl, H, hl12⟩ h hres
  refine c_seq (rg (st (v := (B (decide (s10.2 < 4)))) (rv_lss (a := s10.2) (b := 4) rfl rfl) (w_end (q_then (c_seq ?_)))))
  refine cd_cond (decide (s10.2 < 4)) rfl (fun hb13 => ?_) (fun hb13 => ?_)
  ·replace h := bif_t hb13 h
   refine c_skip (q_then (c_seq (c_blk (c_seq (rg (st (v := (I s10.2)) (rv_move rfl) (st (v := (I s10.2)) (rv_assign rfl) (w_end (q_then ?_)))))))))
   refine rgP (σ := σ11) 16 (by kernel_rfl) (by kernel_rfl) (by kernel_rfl) ?_
   refine sq (v := (I s10.2)) (rv_move rfl) (sq (v := (I s10.2)) (rv_move rfl) ?_)
   obtain ⟨x14, hx15, h'⟩ := bind_some h
   clear h
   have h := h'; clear h'
   have hl16 := gidx_lt hx15 As
   refine sq (v := (pt b1 (0 + s10.2.toNat * 1))) (rv_indexAddr_array Try.underlying54 ti3 rfl rfl hl16.1 hl16.2) ?_
   have hc17 := Hp.arrCell H 1 rfl hx15
   refine sq (v := (I x14)) (rv_load1 Try.underlying3 rfl rfl hc17) (sq (v := (I s10.2)) (rv_move rfl) ?_)
   obtain ⟨x18, hx19, h'⟩ := bind_some h
   clear h
   have h := h'; clear h'
   have hl20 := gidx_lt hx19 Au
   refine sq (v := (pt b3 (0 + s10.2.toNat * 1))) (rv_indexAddr_array Try.underlying54 ti3 rfl rfl hl20.1 hl20.2) ?_
   have hc21 := Hp.arrCell H 2 rfl hx19
   refine sq (v := (I x18)) (rv_load1 Try.underlying3 rfl rfl hc21) (sq (v := (I (w64 (x14 - x18)))) (rv_sub (a := x14) (b := x18) rfl rfl) (sq (v := (I s10.2)) (rv_move rfl) ?_))
   obtain ⟨x22, hx23, h'⟩ := bind_some h
   clear h
   have h := h'; clear h'
   have hl24 := gidx_lt hx23 Au
   refine sq (v := (pt b3 (0 + s10.2.toNat * 1))) (rv_indexAddr_array Try.underlying54 ti3 rfl rfl hl24.1 hl24.2) ?_
   have hc25 := Hp.arrCell H 2 rfl hx23
   refine sq (v := (I x22)) (rv_load1 Try.underlying3 rfl rfl hc25) (sq (v := (I s10.2)) (rv_move rfl) ?_)
   obtain ⟨x26, hx27, h'⟩ := bind_some h
   clear h
   have h := h'; clear h'
   have hl28 := gidx_lt hx27 As
   refine sq (v := (pt b1 (0 + s10.2.toNat * 1))) (rv_indexAddr_array Try.underlying54 ti3 rfl rfl hl28.1 hl28.2) ?_
   have hc29 := Hp.arrCell H 1 rfl hx27
   refine sq (v := (I x26)) (rv_load1 Try.underlying3 rfl rfl hc29) (sq (v := (I (w64 (x22 - x26)))) (rv_sub (a := x22) (b := x26) rfl rfl) (sq (v := (I (max (w64 (x14 - x18)) (w64 (x22 - x26))))) (rv_max rfl rfl) (sq_end ?_)))
   intro σ30 hm31
   replace H := H.grow (hm31.mono fun _ h => h); clear hm31
   obtain ⟨x32, hx33, h'⟩ := bind_some h
   clear h
   have h := h'; clear h'
   have hl34 := gidx_lt hx33 hl12
   refine st (v := (pt b7 (0 + s10.2.toNat * 1))) (rv_indexAddr_array Try.underlying54 ti3 rfl rfl hl34.1 hl34.2) ?_
   have hl35 := gidx_lt hx33 hl12
   refine st_exS (ex_store_box (k := s10.2.toNat * 1) (vs := [(I (max (w64 (x14 - x18)) (w64 (x22 - x26))))]) (cs' := (List.map I (s10.1.set s10.2.toNat (max (w64 (x14 - x18)) (w64 (x22 - x26)))))) H (i := 0) rfl ti3 rfl rfl rfl rfl rfl (by rw [List.length_map, hl12]; simp; omega) (by simp [plain]) (arr_set' _ _ _)) wn ?_
   rintro σ36 ⟨H, -⟩
   refine w_end (q_blk (q_then (rg (st (v := (I (w64 (s10.2 + 1)))) (rv_add (a := s10.2) (b := 1) rfl rfl) (st (v := (I (w64 (s10.2 + 1)))) (rv_move rfl) (w_end (q_then ?_)))))))
   obtain rfl := Option.some.inj h
   exact ⟨_, rfl, _, σ36, fr_join ⟨rfl, rfl, rfl, rfl, rfl, trivial⟩, rfl, H.sel' [0, 1, 2, 3] rfl rfl, (set_len hl12)⟩
  ·replace h := bif_f hb13 h
   refine c_exit (q_then_x (q_then_x (q_blk_hit ?_)))
   obtain rfl := Option.some.inj h
   obtain rfl := hres _ rfl
   exact ⟨rfl, _, σ11, fr_join ⟨rfl, rfl, trivial⟩, rfl, H.sel' [0, 3] rfl rfl, hl12⟩
 ·clear hj
  have h := h'
  clear h' H
  rintro e a w ⟨rfl, ρ, σ37, rfl, rfl, H, hl38⟩
  refine q_then (c_seq (rg ?_))
  have hc39 := H.cells 0 rfl
  refine st (v := (.agg (List.map I o9).toArray)) (rv_load (cs := (List.map I o9)) Try.underlying54 rfl ti54 rfl (by rw [List.length_map]; exact hl38) hc39) ?_
  refine st_exS (ex_store_box (k := 0) (cs := (List.map I (List.replicate 4 0))) (vs := (List.map I o9)) (cs' := (List.map I o9)) H (i := 1) rfl ti54 rfl rfl rfl rfl ((List.length_map _).trans hl38) (arr_fits (k := 4) hl38 rfl) (plain_ints _) (arr_all (k := 4) hl38 rfl)) wn ?_
  rintro σ40 ⟨H, -⟩
  refine w_end (q_then (c_ret ?_))
  obtain rfl := Option.some.inj h
  exact fin_ret (v := (.agg (List.map I o9).toArray)) (results_ok Try.results50 (res_cell rfl (run_cellRes (cs := (List.map I o9)) Try.underlying54 rfl ti54 (by rw [List.length_map]; exact hl38) (H.cells 0 rfl)) res_nil) rfl) ⟨rfl, rfl, hl38⟩ (H.sel' [] rfl rfl)

theorem c_impl_Distance {Ap : Int} {Av : List Int} {Aw : List Int} {Ax : Option Addr} {Ay : Nat} {Az : Option Addr} {Ba : Nat} {r : Int} (h : M.impl_Distance Ap Av Aw = some r) :
    Cal2 Try.prog 21 [(I Ap), (Sl Ax Av Ay), (Sl Az Aw Ba)] [Ch.ro 0 (Sl Ax Av Ay) Av, Ch.ro 0 (Sl Az Aw Ba) Aw] (fun n0 v L => v = (I r) ∧ L = []) := by
 refine cal2 (n := 24) Try.func21 rfl rfl rfl rfl ?_
 intro S0 σ0 n0 hn0 H
 unfold M.impl_Distance at h
 refine c_seq (rg (st (v := (I 0)) (rv_assign rfl) (w_end (q_then (c_seq (c_seq ?_))))))
 obtain ⟨o1, hj, h'⟩ := bind_some h
 clear h
 refine c_cut (fun e a w => e = .normal ∧ ∃ (ρ : Nat → Value) (σ : St), a = fr 24 (updL ρ [(0, (I Ap)), (1, (Sl Ax Av Ay)), (2, (Sl Az Aw Ba)), (14, (B o1))]) ∧ w = σ.w ∧ Hp S0 σ0 σ [Ch.ro 0 (Sl Ax Av Ay) Av, Ch.ro 0 (Sl Az Aw Ba) Aw]) ?_ ?_
 ·clear h'
  rename _ = some o1 => h
  refine rg (st (v := (Sl Ax Av Ay)) (rv_move rfl) ?_)
  obtain ⟨r2, hx3, h'⟩ := bind_some h
  clear h
  have h := h'; clear h'
  have hc4 := c_impl_ValidVector (Ai := Ax) (Aj := Ay) hx3
  refine st_call (cx_call hc4 (ent_f hc4.fn rfl) hn0 (H.sel' [0, 0, 1] rfl rfl : Hp S0 σ0 _ ([_] ++ _))) wn ?_
  rintro _ σ5 ⟨_, ⟨rfl, rfl⟩, H, -⟩
  replace H : Hp _ _ _ [_, _] := H
  refine st (v := (B (!r2))) (rv_not rfl) (st (v := (B (!r2))) (rv_move rfl) ?_)
  rcases Bool.eq_false_or_eq_true (!r2) with hb6 | hb6
  ·replace h := bif_t hb6 h
   refine st_skip (congrArg some hb6) (st_skip (congrArg some hb6) (st_skip (congrArg some hb6) (st (v := (B true)) (rv_pick_t (congrArg B hb6) rfl) (w_end ?_))))
   obtain rfl := Option.some.inj h
   exact ⟨rfl, _, σ5, fr_join ⟨rfl, rfl, rfl, rfl, trivial⟩, rfl, H.sel' [0, 1] rfl rfl⟩
  ·replace h := bif_f hb6 h
   refine st_g (v := (Sl Az Aw Ba)) (congrArg some hb6) (rv_move rfl) ?_
   obtain ⟨r7, hx8, h'⟩ := bind_some h
   clear h
   have h := h'; clear h'
   have hc9 := c_impl_ValidVector (Ai := Az) (Aj := Ba) hx8
   refine st_call (cx_call hc9 (ent_f hc9.fn rfl) hn0 (H.sel' [1, 0, 1] rfl rfl : Hp S0 σ0 _ ([_] ++ _))) (wanted_yes rfl (by exact (congrArg some hb6))) ?_
   rintro _ σ10 ⟨_, ⟨rfl, rfl⟩, H, -⟩
   replace H : Hp _ _ _ [_, _] := H
   refine st_g (v := (B (!r7))) (congrArg some hb6) (rv_not rfl) (st (v := (B (!r7))) (rv_pick_f (congrArg B hb6) rfl) (w_end ?_))
   obtain rfl := Option.some.inj h
   exact ⟨rfl, _, σ10, fr_join ⟨rfl, rfl, rfl, rfl, trivial⟩, rfl, H.sel' [0, 1] rfl rfl⟩
 ·clear hj
  have h := h'
  clear h' H
  rintro e a w ⟨rfl, ρ, σ11, rfl, rfl, H⟩
  refine q_then ?_
  refine cd_cond o1 rfl (fun hb12 => ?_) (fun hb12 => ?_)
  ·replace h := bif_t hb12 h
   refine c_seq (rg (st (v := (I (-1))) (rv_assign rfl) (w_end (q_then (c_ret (q_then_r ?_))))))
   obtain rfl := Option.some.inj h
   exact fin_ret (v := (I (-1))) (results_ok Try.results21 (res_tmp (v := (I (-1))) rfl res_nil) rfl) ⟨rfl, rfl⟩ (H.sel' [] rfl rfl)
  ·replace h := bif_f hb12 h
   refine c_skip (q_then (c_seq ?_))
   obtain ⟨xs13, hx14, h'⟩ := bind_some h
   clear h
   have h := h'; clear h'
   obtain ⟨hl18, hq19⟩ := garr_some hx14
   clear hx14 hq19
   obtain ⟨b15, o16, rfl, hc17⟩ := (H.ro 0 rfl).arr (Nat.lt_of_lt_of_le (by decide) hl18)
   obtain ⟨xs20, hx21, h'⟩ := bind_some h
   clear h
   have h := h'; clear h'
   obtain ⟨hl25, hq26⟩ := garr_some hx21
   clear hx21 hq26
   obtain ⟨b22, o23, rfl, hc24⟩ := (H.ro 1 rfl).arr (Nat.lt_of_lt_of_le (by decide) hl25)
   obtain ⟨r27, hx28, h'⟩ := bind_some h
   clear h
   have h := h'; clear h'
   have hc29 := c_impl_gapsOf (by rw [List.length_take]; have := hl18; omega) (by rw [List.length_take]; have := hl25; omega) hx28
   have Hs := H
   refine rg2 (σ := σ11) (Nm := Unit) 8 [7] [[false], [true]] [[(0, 0), (1, 1)], [(0, 0)], [(0, 0)], [(0, 0)], [(0, 0)], [(0, 0)], [(0, 0)], [(0, 1)]] 1 [fun _ => fun σm => Hp S0 σ0 σm [Ch.ro 0 (Sl (some ⟨b15, o16, none⟩) Av Ay) Av, Ch.ro 0 (Sl (some ⟨b22, o23, none⟩) Aw Ba) Aw] ∧ Md (cov []) σ11 σm, fun _ => fun σm => Hp S0 σ0 σm [Ch.ro 0 (Sl (some ⟨b15, o16, none⟩) Av Ay) Av, Ch.ro 0 (Sl (some ⟨b22, o23, none⟩) Aw Ba) Aw] ∧ Md (cov []) σ11 σm ∧ r27.length = 4] [fun _ => (I Ap), fun _ => (Sl (some ⟨b15, o16, none⟩) Av Ay), fun _ => (.pointer (some ⟨b15, o16, none⟩)), fun _ => (.agg (List.map I (List.take 4 Av)).toArray), fun _ => (Sl (some ⟨b22, o23, none⟩) Aw Ba), fun _ => (.pointer (some ⟨b22, o23, none⟩)), fun _ => (.agg (List.map I (List.take 4 Aw)).toArray), fun _ => (.agg (List.map I r27).toArray)] () (by kernel_rfl) (by kernel_rfl) ?_ ?_ ?_
   ·intro σm m0
    exact ⟨H.grow (m0.mono fun _ h => h.elim), m0⟩
   ·refine ac rfl (by
      intro k _nm ρ σm hJ hoff hdep
      have e0 := look_off (N := 24) (hoff 0 rfl) rfl
      exact dp_v (v := (I Ap)) wn (rv_move e0) rfl hJ) ?_
    refine ac rfl (by
      intro k _nm ρ σm hJ hoff hdep
      have e1 := look_off (N := 24) (hoff 1 rfl) rfl
      exact dp_v (v := (Sl (some ⟨b15, o16, none⟩) Av Ay)) wn (rv_move e1) rfl hJ) ?_
    refine ac rfl (by
      intro k _nm ρ σm hJ hoff hdep
      have e16 := hdep 1 rfl rfl 16 rfl
      exact dp_v (v := (.pointer (some ⟨b15, o16, none⟩))) wn (rv_arrPtr Try.underlying54 e16 hl18) rfl hJ) ?_
    refine all_cons (by
      refine ⟨?_, ?_⟩
      ·intro _nm ρ σm hJ hoff hdep
       have e17 := hdep 2 rfl rfl 17 rfl
       obtain ⟨H, m⟩ := id hJ
       replace hc17 := (Hs.ro 0 rfl).arr_md hc17 m
       exact dp_v (v := (.agg (List.map I (List.take 4 Av)).toArray)) wn (rv_load (cs := List.map I (List.take 4 Av)) Try.underlying54 rfl ti54 e17 (by rw [List.length_map, List.length_take]; have := hl18; omega) (arr_take hc17)) rfl hJ
      trivial) ?_
    refine ac rfl (by
      intro k _nm ρ σm hJ hoff hdep
      have e2 := look_off (N := 24) (hoff 2 rfl) rfl
      exact dp_v (v := (Sl (some ⟨b22, o23, none⟩) Aw Ba)) wn (rv_move e2) rfl hJ) ?_
    refine ac rfl (by
      intro k _nm ρ σm hJ hoff hdep
      have e19 := hdep 4 rfl rfl 19 rfl
      exact dp_v (v := (.pointer (some ⟨b22, o23, none⟩))) wn (rv_arrPtr Try.underlying54 e19 hl25) rfl hJ) ?_
    refine all_cons (by
      refine ⟨?_, ?_⟩
      ·intro _nm ρ σm hJ hoff hdep
       have e20 := hdep 5 rfl rfl 20 rfl
       obtain ⟨H, m⟩ := id hJ
       replace hc24 := (Hs.ro 1 rfl).arr_md hc24 m
       exact dp_v (v := (.agg (List.map I (List.take 4 Aw)).toArray)) wn (rv_load (cs := List.map I (List.take 4 Aw)) Try.underlying54 rfl ti54 e20 (by rw [List.length_map, List.length_take]; have := hl25; omega) (arr_take hc24)) rfl hJ
      trivial) ?_
    refine all_cons (by
      refine ⟨?_, ?_⟩
      ·intro _nm ρ σm hJ hoff hdep
       have e18 : look 24 ρ 18 = (.agg (List.map I (List.take 4 Av)).toArray) := hdep 3 rfl rfl 18 rfl
       have e21 : look 24 ρ 21 = (.agg (List.map I (List.take 4 Aw)).toArray) := hdep 6 rfl rfl 21 rfl
       obtain ⟨H, m⟩ := id hJ
       refine dp_cx wn (cx_call hc29 (ent_f hc29.fn (by show [look 24 ρ 18, look 24 ρ 21] = _; rw [e18, e21])) hn0 (H.sel' [0, 1] rfl rfl : Hp S0 σ0 _ ([] ++ _))) ?_
       rintro _ σq ⟨_, ⟨rfl, rfl, hl30⟩, H2, m2⟩
       exact ⟨_, (), rfl, rfl, ⟨H2.sel' [0, 1] rfl rfl, m.comp0 m2, hl30⟩, stab [0, 1, 2, 3, 4, 5, 6] (by kernel_rfl) ⟨rfl, rfl, rfl, rfl, rfl, rfl, rfl, trivial⟩⟩
      trivial) ?_
    exact all_nil
   ·intro _nm ρ σ31 hJ hoff hrel
    have e15 := hrel 0 rfl 15 rfl
    have e22 := hrel 7 rfl 22 rfl
    obtain ⟨H, -, hl30⟩ := (show Hp S0 σ0 σ31 [Ch.ro 0 (Sl (some ⟨b15, o16, none⟩) Av Ay) Av, Ch.ro 0 (Sl (some ⟨b22, o23, none⟩) Aw Ba) Aw] ∧ Md (cov []) σ11 σ31 ∧ r27.length = 4 from hJ)
    clear hJ Hs
    rw [fr_lookL (L := [(15, (I Ap)), (22, (.agg (List.map I r27).toArray))]) ⟨e15, e22, trivial⟩]
    clear hoff hrel e15 e22
    obtain ⟨r32, hx33, h'⟩ := bind_some h
    clear h
    have h := h'; clear h'
    have hc34 := c_impl_distanceOf hl30 hx33
    refine st_call (cx_call hc34 (ent_f hc34.fn rfl) hn0 (H.sel' [0, 1] rfl rfl : Hp S0 σ0 _ ([] ++ _))) wn ?_
    rintro _ σ35 ⟨_, ⟨rfl, rfl⟩, H, -⟩
    replace H : Hp _ _ _ [_, _] := H
    refine st (v := (I r32)) (rv_assign rfl) (w_end (q_then (c_ret ?_)))
    obtain rfl := Option.some.inj h
    exact fin_ret (v := (I r32)) (results_ok Try.results21 (res_tmp (v := (I r32)) rfl res_nil) rfl) ⟨rfl, rfl⟩ (H.sel' [] rfl rfl)

theorem c_impl_CentreOf {Bb : List (List Int)} {Bc : List Int} {Bd : Option Addr} {Be : Nat} {Bf : Option Addr} {Bg : Nat} {r : Int} (h : M.impl_CentreOf Bb Bc = some r) :
    Cal2 Try.prog 19 [(Sl Bd Bb Be), (Sl Bf Bc Bg)] [Ch.ro 0 (Sl Bd Bb Be) Bb, Ch.ro 0 (Sl Bf Bc Bg) Bc] (fun n0 v L => v = (I r) ∧ L = []) := by
 refine cal2 (n := 35) Try.func19 rfl rfl rfl rfl ?_
 intro S0 σ0 n0 hn0 H
 unfold M.impl_CentreOf at h
 refine c_seq (rg (st (v := (I 0)) (rv_assign rfl) (w_end (q_then (c_seq (c_seq ?_))))))
 obtain ⟨o1, hj, h'⟩ := bind_some h
 clear h
 refine c_cut (fun e a w => e = .normal ∧ ∃ (ρ : Nat → Value) (σ : St), a = fr 35 (updL ρ [(0, (Sl Bd Bb Be)), (1, (Sl Bf Bc Bg)), (17, (B o1))]) ∧ w = σ.w ∧ Hp S0 σ0 σ [Ch.ro 0 (Sl Bd Bb Be) Bb, Ch.ro 0 (Sl Bf Bc Bg) Bc]) ?_ ?_
 ·clear h'
  rename _ = some o1 => h
  refine rg (st (v := (Sl Bd Bb Be)) (rv_move rfl) ?_)
  obtain ⟨r2, hx3, h'⟩ := bind_some h
  clear h
  have h := h'; clear h'
  have hc4 := c_impl_ValidCentres (Am := Bd) (Ao := Be) hx3
  refine st_call (cx_call hc4 (ent_f hc4.fn rfl) hn0 (H.sel' [0, 0, 1] rfl rfl : Hp S0 σ0 _ ([_] ++ _))) wn ?_
  rintro _ σ5 ⟨_, ⟨rfl, rfl⟩, H, -⟩
  replace H : Hp _ _ _ [_, _] := H
  refine st (v := (B (!r2))) (rv_not rfl) (st (v := (B (!r2))) (rv_move rfl) ?_)
  rcases Bool.eq_false_or_eq_true (!r2) with hb6 | hb6
  ·replace h := bif_t hb6 h
   refine st_skip (congrArg some hb6) (st_skip (congrArg some hb6) (st_skip (congrArg some hb6) (st (v := (B true)) (rv_pick_t (congrArg B hb6) rfl) (w_end ?_))))
   obtain rfl := Option.some.inj h
   exact ⟨rfl, _, σ5, fr_join ⟨rfl, rfl, rfl, trivial⟩, rfl, H.sel' [0, 1] rfl rfl⟩
  ·replace h := bif_f hb6 h
   refine st_g (v := (Sl Bf Bc Bg)) (congrArg some hb6) (rv_move rfl) ?_
   obtain ⟨r7, hx8, h'⟩ := bind_some h
   clear h
   have h := h'; clear h'
   have hc9 := c_impl_ValidVector (Ai := Bf) (Aj := Bg) hx8
   refine st_call (cx_call hc9 (ent_f hc9.fn rfl) hn0 (H.sel' [1, 0, 1] rfl rfl : Hp S0 σ0 _ ([_] ++ _))) (wanted_yes rfl (by exact (congrArg some hb6))) ?_
   rintro _ σ10 ⟨_, ⟨rfl, rfl⟩, H, -⟩
   replace H : Hp _ _ _ [_, _] := H
   refine st_g (v := (B (!r7))) (congrArg some hb6) (rv_not rfl) (st (v := (B (!r7))) (rv_pick_f (congrArg B hb6) rfl) (w_end ?_))
   obtain rfl := Option.some.inj h
   exact ⟨rfl, _, σ10, fr_join ⟨rfl, rfl, rfl, trivial⟩, rfl, H.sel' [0, 1] rfl rfl⟩
 ·clear hj
  have h := h'
  clear h' H
  rintro e a w ⟨rfl, ρ, σ11, rfl, rfl, H⟩
  refine q_then ?_
  refine cd_cond o1 rfl (fun hb12 => ?_) (fun hb12 => ?_)
  ·replace h := bif_t hb12 h
   refine c_seq (rg (st (v := (I (-1))) (rv_assign rfl) (w_end (q_then (c_ret (q_then_r ?_))))))
   obtain rfl := Option.some.inj h
   exact fin_ret (v := (I (-1))) (results_ok Try.results19 (res_tmp (v := (I (-1))) rfl res_nil) rfl) ⟨rfl, rfl⟩ (H.sel' [] rfl rfl)
  ·replace h := bif_f hb12 h
   refine c_skip (q_then (c_seq (rg (st (v := (I 0)) (rv_assign rfl) (st (v := (I 1000000)) (rv_assign rfl) (w_end (q_then (c_seq (c_seq (rg (st (v := (Sl Bd Bb Be)) (rv_move rfl) ?_)))))))))))
   refine st (v := (I (Bb.length : Int))) (rv_len Try.underlying23 rfl) (st (v := (I 0)) (rv_move rfl) (w_end (q_then ?_)))
   obtain ⟨o13, hj, h'⟩ := bind_some h
   clear h
   refine c_cut (fun e a w => e = .normal ∧ ∃ (ρ : Nat → Value) (σ : St), a = fr 35 (updL ρ [(5, (I o13))]) ∧ w = σ.w ∧ Hp S0 σ0 σ []) ?_ ?_
   ·clear h'
    rename _ = some o13 => h
    refine c_blk (wp_loopM _ h (fun s14 a w => ∃ (ρ : Nat → Value) (σ : St), a = fr 35 (updL ρ [(1, (Sl Bf Bc Bg)), (5, (I s14.1)), (6, (I s14.2.1)), (18, (Sl Bd Bb Be)), (19, (I (Bb.length : Int))), (20, (I s14.2.2))]) ∧ w = σ.w ∧ Hp S0 σ0 σ [Ch.ro 0 (Sl Bf Bc Bg) Bc, Ch.ro 0 (Sl Bd Bb Be) Bb]) ⟨_, σ11, fr_join ⟨rfl, rfl, rfl, rfl, rfl, rfl, trivial⟩, rfl, H.sel' [1, 0] rfl rfl⟩ ?_)
    clear h H
    rintro s14 a w o ⟨ρ, σ15, rfl, rfl, H⟩ h hres
    refine c_seq (rg (st (v := (B (decide (s14.2.2 < (Bb.length : Int))))) (rv_lss (a := s14.2.2) (b := (Bb.length : Int)) rfl rfl) (w_end (q_then (c_seq ?_)))))
    refine cd_cond (decide (s14.2.2 < (Bb.length : Int))) rfl (fun hb16 => ?_) (fun hb16 => ?_)
    ·replace h := bif_t hb16 h
     refine c_skip (q_then (c_seq ?_))
     obtain ⟨o17, hj, h'⟩ := bind_some h
     clear h
     refine c_cut (fun e a w => e = .normal ∧ ∃ (ρ : Nat → Value) (σ : St), a = fr 35 (updL ρ [(1, (Sl Bf Bc Bg)), (5, (I o17.1)), (6, (I o17.2)), (18, (Sl Bd Bb Be)), (19, (I (Bb.length : Int))), (20, (I s14.2.2))]) ∧ w = σ.w ∧ Hp S0 σ0 σ [Ch.ro 0 (Sl Bf Bc Bg) Bc, Ch.ro 0 (Sl Bd Bb Be) Bb]) ?_ ?_
     ·clear h'
      rename _ = some o17 => h
      refine c_blk (c_seq (rg (st (v := (I s14.2.2)) (rv_move rfl) ?_)))
      obtain ⟨x18, hx19, h'⟩ := bind_some h
      clear h
      have h := h'; clear h'
      obtain ⟨b21, o22, hi20, -⟩ := (H.ro 1 rfl).ix hx19
      refine st (v := (pt b21 o22)) (rv_ix Try.underlying23 ti27 rfl rfl hi20) ?_
      obtain ⟨v26, hc27, hR25⟩ := ((H.ro 1 rfl).at hx19 hi20).slice
      obtain ⟨a23, c24, rfl⟩ := hR25.isSl
      replace H := H.add (d := Ch.ro 0 (Sl a23 x18 c24) x18) hR25 (fun _ h => h)
      clear hR25
      refine st (v := (Sl a23 x18 c24)) (rv_load1 Try.underlying27 rfl rfl hc27) (st (v := (I s14.2.2)) (rv_assign rfl) (st (v := (Sl a23 x18 c24)) (rv_assign rfl) (w_end (q_then (c_seq (rg (st (v := (Sl a23 x18 c24)) (rv_move rfl) (st (v := (Sl Bf Bc Bg)) (rv_move rfl) ?_))))))))
      obtain ⟨r28, hx29, h'⟩ := bind_some h
      clear h
      have h := h'; clear h'
      have hc30 := c_impl_Distance (Ax := a23) (Ay := c24) (Az := Bf) (Ba := Bg) hx29
      refine st_call (cx_call hc30 (ent_f hc30.fn rfl) hn0 (H.sel' [0, 1, 0, 1, 2] rfl rfl : Hp S0 σ0 _ ([_, _] ++ _))) wn ?_
      rintro _ σ31 ⟨_, ⟨rfl, rfl⟩, H, -⟩
      replace H : Hp _ _ _ [_, _, _] := H
      refine st (v := (I r28)) (rv_assign rfl) (w_end (q_then (c_seq (rg (st (v := (I r28)) (rv_move rfl) (st (v := (I s14.2.1)) (rv_move rfl) (st (v := (B (decide (r28 < s14.2.1)))) (rv_lss (a := r28) (b := s14.2.1) rfl rfl) (w_end (q_then ?_)))))))))
      refine cd_cond (decide (r28 < s14.2.1)) rfl (fun hb32 => ?_) (fun hb32 => ?_)
      ·replace h := bif_t hb32 h
       refine rg (st (v := (I s14.2.2)) (rv_move rfl) (st (v := (I r28)) (rv_move rfl) (st (v := (I s14.2.2)) (rv_assign rfl) (st (v := (I r28)) (rv_assign rfl) (w_end (q_blk ?_))))))
       obtain rfl := Option.some.inj h
       exact ⟨rfl, _, σ31, fr_join ⟨rfl, rfl, rfl, rfl, rfl, rfl, trivial⟩, rfl, H.sel' [1, 2] rfl rfl⟩
      ·replace h := bif_f hb32 h
       refine c_skip (q_blk ?_)
       obtain rfl := Option.some.inj h
       exact ⟨rfl, _, σ31, fr_join ⟨rfl, rfl, rfl, rfl, rfl, rfl, trivial⟩, rfl, H.sel' [1, 2] rfl rfl⟩
     ·clear hj
      have h := h'
      clear h' H
      rintro e a w ⟨rfl, ρ, σ33, rfl, rfl, H⟩
      refine q_then (rg (st (v := (I (w64 (s14.2.2 + 1)))) (rv_add (a := s14.2.2) (b := 1) rfl rfl) (st (v := (I (w64 (s14.2.2 + 1)))) (rv_move rfl) (w_end (q_then ?_)))))
      obtain rfl := Option.some.inj h
      exact ⟨_, rfl, _, σ33, fr_join ⟨rfl, rfl, rfl, rfl, rfl, rfl, trivial⟩, rfl, H.sel' [0, 1] rfl rfl⟩
    ·replace h := bif_f hb16 h
     refine c_exit (q_then_x (q_then_x (q_blk_hit ?_)))
     obtain rfl := Option.some.inj h
     obtain rfl := hres _ rfl
     exact ⟨rfl, _, σ15, fr_join ⟨rfl, trivial⟩, rfl, H.sel' [] rfl rfl⟩
   ·clear hj
    have h := h'
    clear h' H
    rintro e a w ⟨rfl, ρ, σ34, rfl, rfl, H⟩
    refine q_then (c_seq (rg (st (v := (I o13)) (rv_move rfl) (st (v := (I o13)) (rv_assign rfl) (w_end (q_then (c_ret ?_)))))))
    obtain rfl := Option.some.inj h
    exact fin_ret (v := (I o13)) (results_ok Try.results19 (res_tmp (v := (I o13)) rfl res_nil) rfl) ⟨rfl, rfl⟩ (H.sel' [] rfl rfl)

theorem c_impl_validKey {Bh : Int}  {r : Bool} (h : M.impl_validKey Bh = some r) :
    Cal2 Try.prog 86 [(I Bh)] [] (fun n0 v L => v = (B r) ∧ L = []) := by
 refine cal2 (n := 9) Try.func86 rfl rfl rfl rfl ?_
 intro S0 σ0 n0 hn0 H
 unfold M.impl_validKey at h
 refine c_seq (rg (st (v := (B false)) (rv_assign rfl) (w_end (q_then (c_seq (rg (st (v := (I Bh)) (rv_move rfl) (st (v := (B (decide (1 ≤ Bh)))) (rv_geq (a := Bh) (b := 1) rfl rfl) (st (v := (B (decide (1 ≤ Bh)))) (rv_move rfl) ?_)))))))))
 rcases Bool.eq_false_or_eq_true (decide (1 ≤ Bh)) with hb1 | hb1
 ·replace h := bif_t hb1 h
  refine st_g (v := (I Bh)) (congrArg some hb1) (rv_move rfl) (st_g (v := (B (decide (Bh ≤ 99)))) (congrArg some hb1) (rv_leq (a := Bh) (b := 99) rfl rfl) (st (v := (B (decide (Bh ≤ 99)))) (rv_pick_t (congrArg B hb1) rfl) (st (v := (B (decide (Bh ≤ 99)))) (rv_assign rfl) (w_end (q_then (c_ret ?_))))))
  obtain rfl := Option.some.inj h
  exact fin_ret (v := (B (decide (Bh ≤ 99)))) (results_ok Try.results86 (res_tmp (v := (B (decide (Bh ≤ 99)))) rfl res_nil) rfl) ⟨rfl, rfl⟩ (H.sel' [] rfl rfl)
 ·replace h := bif_f hb1 h
  refine st_skip (congrArg some hb1) (st_skip (congrArg some hb1) (st (v := (B false)) (rv_pick_f (congrArg B hb1) rfl) (st (v := (B false)) (rv_assign rfl) (w_end (q_then (c_ret ?_))))))
  obtain rfl := Option.some.inj h
  exact fin_ret (v := (B false)) (results_ok Try.results86 (res_tmp (v := (B false)) rfl res_nil) rfl) ⟨rfl, rfl⟩ (H.sel' [] rfl rfl)

theorem c_impl_validItem {Bi : Int × (List Int) × Int} {Bj : Option Addr} {Bk : Nat} {r : Bool} (h : M.impl_validItem Bi = some r) :
    Cal2 Try.prog 83 [(.agg #[(I Bi.1), (Sl Bj Bi.2.1 Bk), (I Bi.2.2)])] [Ch.ro 0 (Sl Bj Bi.2.1 Bk) Bi.2.1] (fun n0 v L => v = (B r) ∧ L = []) := by
 refine cal2 (n := 21) Try.func83 rfl rfl rfl rfl ?_
 intro S0 σ0 n0 hn0 H
 unfold M.impl_validItem at h
 refine c_seq (rg (st_ex (ex_box (cs := [(I Bi.1), (Sl Bj Bi.2.1 Bk), (I Bi.2.2)]) H hn0 rfl rfl) wn ?_))
 rintro _ σ2 ⟨b1, rfl, H, -⟩
 refine st (v := (B false)) (rv_assign rfl) (w_end (q_then (c_seq (rg (st (v := (pt b1 0)) (rv_fieldAddr (off := 0) (ft := 3) Try.underlying38 rfl ti3 rfl rfl) ?_)))))
 have hc3 := H.cell (u := (I Bi.1)) (o' := 0) 0 0 rfl rfl rfl
 refine st (v := (I Bi.1)) (rv_load1 Try.underlying3 rfl rfl hc3) ?_
 obtain ⟨r4, hx5, h'⟩ := bind_some h
 clear h
 have h := h'; clear h'
 have hc6 := c_impl_validKey hx5
 refine st_call (cx_call hc6 (ent_f hc6.fn rfl) hn0 (H.sel' [0, 1] rfl rfl : Hp S0 σ0 _ ([] ++ _))) wn ?_
 rintro _ σ7 ⟨_, ⟨rfl, rfl⟩, H, -⟩
 replace H : Hp _ _ _ [_, _] := H
 refine st (v := (B r4)) (rv_move rfl) ?_
 rcases Bool.eq_false_or_eq_true r4 with hb8 | hb8
 ·replace h := bif_t hb8 h
  refine st_g (v := (pt b1 1)) (congrArg some hb8) (rv_fieldAddr (off := 1) (ft := 27) Try.underlying38 rfl ti27 rfl rfl) ?_
  have hc9 := H.cell (u := (Sl Bj Bi.2.1 Bk)) (o' := 1) 0 1 rfl rfl rfl
  refine st_g (v := (Sl Bj Bi.2.1 Bk)) (congrArg some hb8) (rv_load1 Try.underlying27 rfl rfl hc9) ?_
  obtain ⟨r10, hx11, h'⟩ := bind_some h
  clear h
  have h := h'; clear h'
  have hc12 := c_impl_ValidVector (Ai := Bj) (Aj := Bk) hx11
  refine st_call (cx_call hc12 (ent_f hc12.fn rfl) hn0 (H.sel' [1, 0, 1] rfl rfl : Hp S0 σ0 _ ([_] ++ _))) (wanted_yes rfl (by exact (congrArg some hb8))) ?_
  rintro _ σ13 ⟨_, ⟨rfl, rfl⟩, H, -⟩
  replace H : Hp _ _ _ [_, _] := H
  refine st (v := (B r10)) (rv_pick_t (congrArg B hb8) rfl) (st (v := (B r10)) (rv_move rfl) ?_)
  rcases Bool.eq_false_or_eq_true r10 with hb14 | hb14
  ·replace h := bif_t hb14 h
   refine st_g (v := (pt b1 2)) (congrArg some hb14) (rv_fieldAddr (off := 2) (ft := 3) Try.underlying38 rfl ti3 rfl rfl) ?_
   have hc15 := H.cell (u := (I Bi.2.2)) (o' := 2) 0 2 rfl rfl rfl
   refine st_g (v := (I Bi.2.2)) (congrArg some hb14) (rv_load1 Try.underlying3 rfl rfl hc15) (st_g (v := (B (decide (0 ≤ Bi.2.2)))) (congrArg some hb14) (rv_geq (a := Bi.2.2) (b := 0) rfl rfl) (st (v := (B (decide (0 ≤ Bi.2.2)))) (rv_pick_t (congrArg B hb14) rfl) (st (v := (B (decide (0 ≤ Bi.2.2)))) (rv_move rfl) ?_)))
   rcases Bool.eq_false_or_eq_true (decide (0 ≤ Bi.2.2)) with hb16 | hb16
   ·replace h := bif_t hb16 h
    refine st_g (v := (pt b1 2)) (congrArg some hb16) (rv_fieldAddr (off := 2) (ft := 3) Try.underlying38 rfl ti3 rfl rfl) ?_
    have hc17 := H.cell (u := (I Bi.2.2)) (o' := 2) 0 2 rfl rfl rfl
    refine st_g (v := (I Bi.2.2)) (congrArg some hb16) (rv_load1 Try.underlying3 rfl rfl hc17) (st_g (v := (B (decide (Bi.2.2 ≤ 15)))) (congrArg some hb16) (rv_leq (a := Bi.2.2) (b := 15) rfl rfl) (st (v := (B (decide (Bi.2.2 ≤ 15)))) (rv_pick_t (congrArg B hb16) rfl) (st (v := (B (decide (Bi.2.2 ≤ 15)))) (rv_assign rfl) (w_end (q_then (c_ret ?_))))))
    obtain rfl := Option.some.inj h
    exact fin_ret (v := (B (decide (Bi.2.2 ≤ 15)))) (results_ok Try.results83 (res_tmp (v := (B (decide (Bi.2.2 ≤ 15)))) rfl res_nil) rfl) ⟨rfl, rfl⟩ (H.sel' [] rfl rfl)
   ·replace h := bif_f hb16 h
    refine st_skip (congrArg some hb16) (st_skip (congrArg some hb16) (st_skip (congrArg some hb16) (st (v := (B false)) (rv_pick_f (congrArg B hb16) rfl) (st (v := (B false)) (rv_assign rfl) (w_end (q_then (c_ret ?_)))))))
    obtain rfl := Option.some.inj h
    exact fin_ret (v := (B false)) (results_ok Try.results83 (res_tmp (v := (B false)) rfl res_nil) rfl) ⟨rfl, rfl⟩ (H.sel' [] rfl rfl)
  ·replace h := bif_f hb14 h
   refine st_skip (congrArg some hb14) (st_skip (congrArg some hb14) (st_skip (congrArg some hb14) (st (v := (B false)) (rv_pick_f (congrArg B hb14) rfl) (st (v := (B false)) (rv_move rfl) (st_skip rfl (st_skip rfl (st_skip rfl (st (v := (B false)) (rv_pick_f rfl rfl) (st (v := (B false)) (rv_assign rfl) (w_end (q_then ?_)))))))))))
   refine c_ret ?_
   obtain rfl := Option.some.inj h
   exact fin_ret (v := (B false)) (results_ok Try.results83 (res_tmp (v := (B false)) rfl res_nil) rfl) ⟨rfl, rfl⟩ (H.sel' [] rfl rfl)
 ·replace h := bif_f hb8 h
  refine st_skip (congrArg some hb8) (st_skip (congrArg some hb8) (st_skip (congrArg some hb8) (st (v := (B false)) (rv_pick_f (congrArg B hb8) rfl) (st (v := (B false)) (rv_move rfl) (st_skip rfl (st_skip rfl (st_skip rfl (st (v := (B false)) (rv_pick_f rfl rfl) (st (v := (B false)) (rv_move rfl) (st_skip rfl (st_skip rfl ?_)))))))))))
  refine st_skip rfl (st (v := (B false)) (rv_pick_f rfl rfl) (st (v := (B false)) (rv_assign rfl) (w_end (q_then (c_ret ?_)))))
  obtain rfl := Option.some.inj h
  exact fin_ret (v := (B false)) (results_ok Try.results83 (res_tmp (v := (B false)) rfl res_nil) rfl) ⟨rfl, rfl⟩ (H.sel' [] rfl rfl)

theorem c_impl_ValidStore {Ak : List (Int × (List Int) × Int)} {Am : Option Addr} {Ao : Nat} {r : Bool} (h : M.impl_ValidStore Ak = some r) :
    Cal2 Try.prog 75 [(Sl Am Ak Ao)] [Ch.ro 0 (Sl Am Ak Ao) Ak] (fun n0 v L => v = (B r) ∧ L = []) := by
 refine cal2 (n := 27) Try.func75 rfl rfl rfl rfl ?_
 intro S0 σ0 n0 hn0 H
 unfold M.impl_ValidStore at h
 refine c_seq (rg (st (v := (B false)) (rv_assign rfl) (w_end (q_then (c_seq (c_seq (rg (st (v := (Sl Am Ak Ao)) (rv_move rfl) (st (v := (I (Ak.length : Int))) (rv_len Try.underlying33 rfl) (st (v := (B (decide (16 < (Ak.length : Int))))) (rv_gtr (a := (Ak.length : Int)) (b := 16) rfl rfl) (w_end ?_)))))))))))
 refine q_then ?_
 refine cd_cond (decide (16 < (Ak.length : Int))) rfl (fun hb1 => ?_) (fun hb1 => ?_)
 ·replace h := bif_t hb1 h
  refine c_seq (rg (st (v := (B false)) (rv_assign rfl) (w_end (q_then (c_ret (q_then_r ?_))))))
  obtain rfl := Option.some.inj h
  exact fin_ret (v := (B false)) (results_ok Try.results75 (res_tmp (v := (B false)) rfl res_nil) rfl) ⟨rfl, rfl⟩ (H.sel' [] rfl rfl)
 ·replace h := bif_f hb1 h
  refine c_skip (q_then (c_seq (rg (st (v := (I 0)) (rv_assign rfl) (w_end (q_then (c_seq (c_seq (rg (st (v := (Sl Am Ak Ao)) (rv_move rfl) (st (v := (I (Ak.length : Int))) (rv_len Try.underlying33 rfl) ?_)))))))))))
  refine st (v := (I 0)) (rv_move rfl) (w_end (q_then ?_))
  obtain ⟨o2, hj, h'⟩ := bind_some h
  clear h
  refine c_cut (fun e a w => (∃ t, o2 = (.inl t) ∧ e = .normal ∧ ∃ (ρ : Nat → Value) (σ : St), a = fr 27 (updL ρ []) ∧ w = σ.w ∧ Hp S0 σ0 σ []) ∨ (∃ t, o2 = (.inr t) ∧ e = .ret ∧ ∃ (ρ : Nat → Value) (σ : St), a = fr 27 (updL ρ [(2, (B t))]) ∧ w = σ.w ∧ Hp S0 σ0 σ [])) ?_ ?_
  ·clear h'
   rename _ = some o2 => h
   refine c_blk (wp_loopM _ h (fun s3 a w => ∃ (ρ : Nat → Value) (σ : St), a = fr 27 (updL ρ [(3, (I s3.1)), (9, (Sl Am Ak Ao)), (10, (I (Ak.length : Int))), (11, (I s3.2))]) ∧ w = σ.w ∧ Hp S0 σ0 σ [Ch.ro 0 (Sl Am Ak Ao) Ak]) ⟨_, σ0, fr_join ⟨rfl, rfl, rfl, rfl, trivial⟩, rfl, H.sel' [0] rfl rfl⟩ ?_)
   clear h H
   rintro s3 a w o ⟨ρ, σ4, rfl, rfl, H⟩ h hres
   refine c_seq (rg (st (v := (B (decide (s3.2 < (Ak.length : Int))))) (rv_lss (a := s3.2) (b := (Ak.length : Int)) rfl rfl) (w_end (q_then (c_seq ?_)))))
   refine cd_cond (decide (s3.2 < (Ak.length : Int))) rfl (fun hb5 => ?_) (fun hb5 => ?_)
   ·replace h := bif_t hb5 h
    refine c_skip (q_then (c_seq (c_blk (c_seq (rg ?_)))))
    obtain ⟨x6, hx7, h'⟩ := bind_some h
    clear h
    have h := h'; clear h'
    obtain ⟨b9, o10, hi8, -⟩ := (H.ro 0 rfl).ix hx7
    refine st (v := (pt b9 o10)) (rv_ix Try.underlying33 ti38 rfl rfl hi8) ?_
    obtain ⟨_, ⟨_, _, rfl, rfl, ⟨_, _, rfl, ⟨_, rfl, hR15⟩, rfl⟩⟩, hl11, hc12⟩ := ((H.ro 0 rfl).at hx7 hi8).cells
    obtain ⟨a13, c14, rfl⟩ := hR15.isSl
    replace H := H.add (d := Ch.ro 0 (Sl a13 x6.2.1 c14) x6.2.1) hR15 (fun _ h => h)
    clear hR15
    refine st (v := (.agg #[(I x6.1), (Sl a13 x6.2.1 c14), (I x6.2.2)])) (rv_load Try.underlying38 rfl ti38 rfl hl11 hc12) (st_ex (ex_alloc (cs := [(I 0), (.slice none 0 0), (I 0)]) H hn0 ti38 rfl) wn ?_)
    rintro _ σ17 ⟨b16, rfl, H, -⟩
    refine st_exS (ex_store_box (k := 0) (cs := [(I 0), (.slice none 0 0), (I 0)]) (vs := [(I x6.1), (Sl a13 x6.2.1 c14), (I x6.2.2)]) (cs' := [(I x6.1), (Sl a13 x6.2.1 c14), (I x6.2.2)]) H (i := 0) rfl ti38 rfl rfl rfl rfl rfl (Nat.le_of_ble_eq_true rfl) (by simp [plain]) rfl) wn ?_
    rintro σ18 ⟨H, -⟩
    refine w_end (q_then (c_seq (c_seq ?_)))
    obtain ⟨o19, hj, h'⟩ := bind_some h
    clear h
    refine c_cut (fun e a w => e = .normal ∧ ∃ (ρ : Nat → Value) (σ : St), a = fr 27 (updL ρ [(5, (pt b16 0)), (9, (Sl Am Ak Ao)), (10, (I (Ak.length : Int))), (11, (I s3.2)), (23, (B o19))]) ∧ w = σ.w ∧ Hp S0 σ0 σ [Ch.ro 0 (Sl a13 x6.2.1 c14) x6.2.1, Ch.bx n0 b16 0 [(I x6.1), (Sl a13 x6.2.1 c14), (I x6.2.2)] [] [], Ch.ro 0 (Sl Am Ak Ao) Ak]) ?_ ?_
    ·clear h'
     rename _ = some o19 => h
     refine rg ?_
     have hc20 := H.cells 0 rfl
     refine st (v := (.agg #[(I x6.1), (Sl a13 x6.2.1 c14), (I x6.2.2)])) (rv_load (cs := [(I x6.1), (Sl a13 x6.2.1 c14), (I x6.2.2)]) Try.underlying38 rfl ti38 rfl rfl hc20) ?_
     obtain ⟨r21, hx22, h'⟩ := bind_some h
     clear h
     have h := h'; clear h'
     have hc23 := c_impl_validItem (Bj := a13) (Bk := c14) hx22
     refine st_call (cx_call hc23 (ent_f hc23.fn rfl) hn0 (H.sel' [1, 0, 1, 2] rfl rfl : Hp S0 σ0 _ ([_] ++ _))) wn ?_
     rintro _ σ24 ⟨_, ⟨rfl, rfl⟩, H, -⟩
     replace H : Hp _ _ _ [_, _, _] := H
     refine st (v := (B (!r21))) (rv_not rfl) (st (v := (B (!r21))) (rv_move rfl) ?_)
     rcases Bool.eq_false_or_eq_true (!r21) with hb25 | hb25
     ·replace h := bif_t hb25 h
      refine st_skip (congrArg some hb25) (st_skip (congrArg some hb25) (st_skip (congrArg some hb25) (st_skip (congrArg some hb25) (st (v := (B true)) (rv_pick_t (congrArg B hb25) rfl) (w_end ?_)))))
      obtain rfl := Option.some.inj h
      exact ⟨rfl, _, σ24, fr_join ⟨rfl, rfl, rfl, rfl, rfl, trivial⟩, rfl, H.sel' [1, 0, 2] rfl rfl⟩
     ·replace h := bif_f hb25 h
      refine st_g (v := (pt b16 0)) (congrArg some hb25) (rv_fieldAddr (off := 0) (ft := 3) Try.underlying38 rfl ti3 rfl rfl) ?_
      have hc26 := H.cell (u := (I x6.1)) (o' := 0) 0 0 rfl rfl rfl
      refine st_g (v := (I x6.1)) (congrArg some hb25) (rv_load1 Try.underlying3 rfl rfl hc26) (st_g (v := (I s3.1)) (congrArg some hb25) (rv_move rfl) (st_g (v := (B (decide (x6.1 ≤ s3.1)))) (congrArg some hb25) (rv_leq (a := x6.1) (b := s3.1) rfl rfl) (st (v := (B (decide (x6.1 ≤ s3.1)))) (rv_pick_f (congrArg B hb25) rfl) (w_end ?_))))
      obtain rfl := Option.some.inj h
      exact ⟨rfl, _, σ24, fr_join ⟨rfl, rfl, rfl, rfl, rfl, trivial⟩, rfl, H.sel' [1, 0, 2] rfl rfl⟩
    ·clear hj
     have h := h'
     clear h' H
     rintro e a w ⟨rfl, ρ, σ27, rfl, rfl, H⟩
     refine q_then ?_
     refine cd_cond o19 rfl (fun hb28 => ?_) (fun hb28 => ?_)
     ·replace h := bif_t hb28 h
      refine c_seq (rg (st (v := (B false)) (rv_assign rfl) (w_end (q_then (c_ret (q_then_r (q_blk_r (q_then_r (q_then_r (q_blk_r ?_))))))))))
      obtain rfl := Option.some.inj h
      obtain rfl := hres _ rfl
      exact .inr (⟨_, rfl, rfl, _, σ27, fr_join ⟨rfl, trivial⟩, rfl, H.sel' [] rfl rfl⟩)
     ·replace h := bif_f hb28 h
      refine c_skip (q_then (rg (st (v := (pt b16 0)) (rv_fieldAddr (off := 0) (ft := 3) Try.underlying38 rfl ti3 rfl rfl) ?_)))
      have hc29 := H.cell (u := (I x6.1)) (o' := 0) 1 0 rfl rfl rfl
      refine st (v := (I x6.1)) (rv_load1 Try.underlying3 rfl rfl hc29) (st (v := (I x6.1)) (rv_assign rfl) (w_end (q_blk (q_then (rg (st (v := (I (w64 (s3.2 + 1)))) (rv_add (a := s3.2) (b := 1) rfl rfl) (st (v := (I (w64 (s3.2 + 1)))) (rv_move rfl) (w_end (q_then ?_)))))))))
      obtain rfl := Option.some.inj h
      exact ⟨_, rfl, _, σ27, fr_join ⟨rfl, rfl, rfl, rfl, trivial⟩, rfl, H.sel' [2] rfl rfl⟩
   ·replace h := bif_f hb5 h
    refine c_exit (q_then_x (q_then_x (q_blk_hit ?_)))
    obtain rfl := Option.some.inj h
    obtain rfl := hres _ rfl
    exact .inl ⟨_, rfl, rfl, _, σ4, fr_join trivial, rfl, H.sel' [] rfl rfl⟩
  ·clear hj
   have h := h'
   clear h' H
   rintro e a w (⟨t30, rfl, rfl, ρ, σ31, rfl, rfl, H⟩ | ⟨t32, rfl, rfl, ρ, σ33, rfl, rfl, H⟩)
   ·replace h := selim_l h
    refine q_then (c_seq (rg (st (v := (B true)) (rv_assign rfl) (w_end (q_then (c_ret ?_))))))
    obtain rfl := Option.some.inj h
    exact fin_ret (v := (B true)) (results_ok Try.results75 (res_tmp (v := (B true)) rfl res_nil) rfl) ⟨rfl, rfl⟩ (H.sel' [] rfl rfl)
   ·replace h := selim_r h
    refine q_then_r ?_
    obtain rfl := Option.some.inj h
    exact fin_ret (v := (B t32)) (results_ok Try.results75 (res_tmp (v := (B t32)) rfl res_nil) rfl) ⟨rfl, rfl⟩ (H.sel' [] rfl rfl)

theorem c_impl_validClusters {Bb : List (List Int)} {Bl : List (Int × (List Int) × Int)} {Bd : Option Addr} {Be : Nat} {Bm : Option Addr} {Bn : Nat} {r : Bool} (h : M.impl_validClusters Bb Bl = some r) :
    Cal2 Try.prog 52 [(Sl Bd Bb Be), (Sl Bm Bl Bn)] [Ch.ro 0 (Sl Bd Bb Be) Bb, Ch.ro 0 (Sl Bm Bl Bn) Bl] (fun n0 v L => v = (B r) ∧ L = []) := by
 refine cal2 (n := 11) Try.func52 rfl rfl rfl rfl ?_
 intro S0 σ0 n0 hn0 H
 unfold M.impl_validClusters at h
 refine c_seq (rg (st (v := (B false)) (rv_assign rfl) (w_end (q_then (c_seq (rg (st (v := (Sl Bd Bb Be)) (rv_move rfl) ?_)))))))
 obtain ⟨r1, hx2, h'⟩ := bind_some h
 clear h
 have h := h'; clear h'
 have hc3 := c_impl_ValidCentres (Am := Bd) (Ao := Be) hx2
 refine st_call (cx_call hc3 (ent_f hc3.fn rfl) hn0 (H.sel' [0, 0, 1] rfl rfl : Hp S0 σ0 _ ([_] ++ _))) wn ?_
 rintro _ σ4 ⟨_, ⟨rfl, rfl⟩, H, -⟩
 replace H : Hp _ _ _ [_, _] := H
 refine st (v := (B r1)) (rv_move rfl) ?_
 rcases Bool.eq_false_or_eq_true r1 with hb5 | hb5
 ·replace h := bif_t hb5 h
  refine st_g (v := (Sl Bm Bl Bn)) (congrArg some hb5) (rv_move rfl) ?_
  obtain ⟨r6, hx7, h'⟩ := bind_some h
  clear h
  have h := h'; clear h'
  have hc8 := c_impl_ValidStore (Am := Bm) (Ao := Bn) hx7
  refine st_call (cx_call hc8 (ent_f hc8.fn rfl) hn0 (H.sel' [1, 0, 1] rfl rfl : Hp S0 σ0 _ ([_] ++ _))) (wanted_yes rfl (by exact (congrArg some hb5))) ?_
  rintro _ σ9 ⟨_, ⟨rfl, rfl⟩, H, -⟩
  replace H : Hp _ _ _ [_, _] := H
  refine st (v := (B r6)) (rv_pick_t (congrArg B hb5) rfl) (st (v := (B r6)) (rv_assign rfl) (w_end (q_then (c_ret ?_))))
  obtain rfl := Option.some.inj h
  exact fin_ret (v := (B r6)) (results_ok Try.results52 (res_tmp (v := (B r6)) rfl res_nil) rfl) ⟨rfl, rfl⟩ (H.sel' [] rfl rfl)
 ·replace h := bif_f hb5 h
  refine st_skip (congrArg some hb5) (st_skip (congrArg some hb5) (st (v := (B false)) (rv_pick_f (congrArg B hb5) rfl) (st (v := (B false)) (rv_assign rfl) (w_end (q_then (c_ret ?_))))))
  obtain rfl := Option.some.inj h
  exact fin_ret (v := (B false)) (results_ok Try.results52 (res_tmp (v := (B false)) rfl res_nil) rfl) ⟨rfl, rfl⟩ (H.sel' [] rfl rfl)

theorem c_impl_AssignItems {Bb : List (List Int)} {Bl : List (Int × (List Int) × Int)} {Bd : Option Addr} {Be : Nat} {Bm : Option Addr} {Bn : Nat} {r : (List Int)} (h : M.impl_AssignItems Bb Bl = some r) :
    Cal2 Try.prog 24 [(Sl Bd Bb Be), (Sl Bm Bl Bn)] [Ch.ro 0 (Sl Bd Bb Be) Bb, Ch.ro 0 (Sl Bm Bl Bn) Bl] (fun n0 v L => ∃ (az1 : Option Addr), ∃ (cz2 : Nat), v = (Sl az1 r cz2) ∧ L = [Ch.own n0 n0 (Sl az1 r cz2) r] ∧ cz2 = r.length) := by
 refine cal2 (n := 31) Try.func24 rfl rfl rfl rfl ?_
 intro S0 σ0 n0 hn0 H
 unfold M.impl_AssignItems at h
 refine c_seq (rg (st (v := (.slice none 0 0)) (rv_assign rfl) (w_end (q_then (c_seq (c_seq (rg (st (v := (Sl Bd Bb Be)) (rv_move rfl) (st (v := (Sl Bm Bl Bn)) (rv_move rfl) ?_)))))))))
 obtain ⟨r1, hx2, h'⟩ := bind_some h
 clear h
 have h := h'; clear h'
 have hc3 := c_impl_validClusters (Bd := Bd) (Be := Be) (Bm := Bm) (Bn := Bn) hx2
 refine st_call (cx_call hc3 (ent_f hc3.fn rfl) hn0 (H.sel' [0, 1, 0, 1] rfl rfl : Hp S0 σ0 _ ([_, _] ++ _))) wn ?_
 rintro _ σ4 ⟨_, ⟨rfl, rfl⟩, H, -⟩
 replace H : Hp _ _ _ [_, _] := H
 refine st (v := (B (!r1))) (rv_not rfl) (w_end (q_then ?_))
 refine cd_cond (!r1) rfl (fun hb5 => ?_) (fun hb5 => ?_)
 ·replace h := bif_t hb5 h
  refine c_seq (rg (st (v := (.slice none 0 0)) (rv_assign rfl) (w_end (q_then (c_ret (q_then_r ?_))))))
  replace H := H.nilOwn Int n0 n0
  obtain rfl := Option.some.inj h
  exact fin_ret (v := (.slice none 0 0)) (results_ok Try.results24 (res_tmp (v := (.slice none 0 0)) rfl res_nil) rfl) ⟨none, 0, rfl, rfl, rfl⟩ (H.sel' [0] rfl rfl)
 ·replace h := bif_f hb5 h
  refine c_skip (q_then (c_seq (rg (st (v := (Sl Bm Bl Bn)) (rv_move rfl) (st (v := (I (Bl.length : Int))) (rv_len Try.underlying33 rfl) ?_)))))
  obtain ⟨xs6, hx7, h'⟩ := bind_some h
  clear h
  have h := h'; clear h'
  refine st_ex (ex_make (el := n0) (z0 := (0 : Int)) (zs := [(I 0)]) H hn0 Try.underlying27 ti3 rfl rfl rfl (by decide) hx7 rfl rfl) wn ?_
  rintro _ σ11 ⟨b8, c9, rfl, ht10, H, -⟩
  replace ht10 := ht10.trans (gmake_len hx7).symm
  refine st (v := (Sl (some ⟨b8, 0, none⟩) xs6 c9)) (rv_assign rfl) (w_end (q_then (c_seq (c_seq (rg (st (v := (Sl Bm Bl Bn)) (rv_move rfl) (st (v := (I (Bl.length : Int))) (rv_len Try.underlying33 rfl) (st (v := (I 0)) (rv_move rfl) (w_end (q_then ?_))))))))))
  obtain ⟨o12, hj, h'⟩ := bind_some h
  clear h
  refine c_cut (fun e a w => e = .normal ∧ ∃ (ρ : Nat → Value) (σ : St), a = fr 31 (updL ρ [(5, (Sl (some ⟨b8, 0, none⟩) o12 c9))]) ∧ w = σ.w ∧ Hp S0 σ0 σ [Ch.own n0 n0 (Sl (some ⟨b8, 0, none⟩) o12 c9) o12] ∧ c9 = o12.length ∧ o12.length = xs6.length) ?_ ?_
  ·clear h'
   rename _ = some o12 => h
   refine c_blk (wp_loopM _ h (fun s13 a w => ∃ (ρ : Nat → Value) (σ : St), a = fr 31 (updL ρ [(0, (Sl Bd Bb Be)), (5, (Sl (some ⟨b8, 0, none⟩) s13.1 c9)), (15, (Sl Bm Bl Bn)), (16, (I (Bl.length : Int))), (17, (I s13.2))]) ∧ w = σ.w ∧ Hp S0 σ0 σ [Ch.ro 0 (Sl Bd Bb Be) Bb, Ch.own n0 n0 (Sl (some ⟨b8, 0, none⟩) s13.1 c9) s13.1, Ch.ro 0 (Sl Bm Bl Bn) Bl] ∧ c9 = s13.1.length ∧ s13.1.length = xs6.length) ⟨_, σ11, fr_join ⟨rfl, rfl, rfl, rfl, rfl, trivial⟩, rfl, H.sel' [1, 0, 2] rfl rfl, ht10, rfl⟩ ?_)
   clear h H
   rintro s13 a w o ⟨ρ, σ14, rfl, rfl, H, ht15, hn16⟩ h hres
   refine c_seq (rg (st (v := (B (decide (s13.2 < (Bl.length : Int))))) (rv_lss (a := s13.2) (b := (Bl.length : Int)) rfl rfl) (w_end (q_then (c_seq ?_)))))
   refine cd_cond (decide (s13.2 < (Bl.length : Int))) rfl (fun hb17 => ?_) (fun hb17 => ?_)
   ·replace h := bif_t hb17 h
    refine c_skip (q_then (c_seq (c_blk (c_seq (rg (st (v := (I s13.2)) (rv_move rfl) ?_))))))
    obtain ⟨x18, hx19, h'⟩ := bind_some h
    clear h
    have h := h'; clear h'
    obtain ⟨b21, o22, hi20, -⟩ := (H.ro 2 rfl).ix hx19
    refine st (v := (pt b21 o22)) (rv_ix Try.underlying33 ti38 rfl rfl hi20) ?_
    obtain ⟨_, ⟨_, _, rfl, rfl, ⟨_, _, rfl, ⟨_, rfl, hR27⟩, rfl⟩⟩, hl23, hc24⟩ := ((H.ro 2 rfl).at hx19 hi20).cells
    obtain ⟨a25, c26, rfl⟩ := hR27.isSl
    replace H := H.add (d := Ch.ro 0 (Sl a25 x18.2.1 c26) x18.2.1) hR27 (fun _ h => h)
    clear hR27
    refine st (v := (.agg #[(I x18.1), (Sl a25 x18.2.1 c26), (I x18.2.2)])) (rv_load Try.underlying38 rfl ti38 rfl hl23 hc24) (st_ex (ex_alloc (cs := [(I 0), (.slice none 0 0), (I 0)]) H hn0 ti38 rfl) wn ?_)
    rintro _ σ29 ⟨b28, rfl, H, -⟩
    refine st (v := (I s13.2)) (rv_assign rfl) ?_
    refine st_exS (ex_store_box (k := 0) (cs := [(I 0), (.slice none 0 0), (I 0)]) (vs := [(I x18.1), (Sl a25 x18.2.1 c26), (I x18.2.2)]) (cs' := [(I x18.1), (Sl a25 x18.2.1 c26), (I x18.2.2)]) H (i := 0) rfl ti38 rfl rfl rfl rfl rfl (Nat.le_of_ble_eq_true rfl) (by simp [plain]) rfl) wn ?_
    rintro σ30 ⟨H, -⟩
    refine w_end (q_then (rg (st (v := (Sl (some ⟨b8, 0, none⟩) s13.1 c9)) (rv_move rfl) (st (v := (I s13.2)) (rv_move rfl) (st (v := (Sl Bd Bb Be)) (rv_move rfl) (st (v := (pt b28 1)) (rv_fieldAddr (off := 1) (ft := 27) Try.underlying38 rfl ti27 rfl rfl) ?_))))))
    have hc31 := H.cell (u := (Sl a25 x18.2.1 c26)) (o' := 1) 0 1 rfl rfl rfl
    refine st (v := (Sl a25 x18.2.1 c26)) (rv_load1 Try.underlying27 rfl rfl hc31) ?_
    obtain ⟨r32, hx33, h'⟩ := bind_some h
    clear h
    have h := h'; clear h'
    have hc34 := c_impl_CentreOf (Bd := Bd) (Be := Be) (Bf := a25) (Bg := c26) hx33
    refine st_call (cx_call hc34 (ent_f hc34.fn rfl) hn0 (H.sel' [2, 1, 0, 1, 2, 3, 4] rfl rfl : Hp S0 σ0 _ ([_, _] ++ _))) wn ?_
    rintro _ σ35 ⟨_, ⟨rfl, rfl⟩, H, -⟩
    replace H : Hp _ _ _ [_, _, _, _, _] := H
    obtain ⟨x36, hx37, h'⟩ := bind_some h
    clear h
    have h := h'; clear h'
    obtain ⟨b39, o40, hi38, -⟩ := (H.own 3 rfl).ix hx37
    refine st (v := (pt b39 o40)) (rv_ix Try.underlying27 ti3 rfl rfl hi38) ?_
    refine st_exS (ex_store_own (e' := r32) (vs := [(I r32)]) (k := 0) H (i := 3) rfl ti3 hx37 hi38 rfl rfl rfl rfl rfl (Nat.le_of_ble_eq_true rfl) (by simp [plain]) (by rintro _ rfl; exact rfl)) wn ?_
    rintro σ41 ⟨H, -⟩
    have hsl : (Sl (some ⟨b8, 0, none⟩) s13.1 c9) = (Sl (some ⟨b8, 0, none⟩) (s13.1.set s13.2.toNat r32) c9) := sl_len List.length_set.symm
    rw [hsl]; rw [hsl] at H; clear hsl
    refine w_end (q_blk (q_then (rg (st (v := (I (w64 (s13.2 + 1)))) (rv_add (a := s13.2) (b := 1) rfl rfl) (st (v := (I (w64 (s13.2 + 1)))) (rv_move rfl) (w_end (q_then ?_)))))))
    obtain rfl := Option.some.inj h
    exact ⟨_, rfl, _, σ41, fr_join ⟨rfl, rfl, rfl, rfl, rfl, trivial⟩, rfl, H.sel' [3, 0, 4] rfl rfl, (ht15.trans List.length_set.symm), (List.length_set.trans hn16)⟩
   ·replace h := bif_f hb17 h
    refine c_exit (q_then_x (q_then_x (q_blk_hit ?_)))
    obtain rfl := Option.some.inj h
    obtain rfl := hres _ rfl
    exact ⟨rfl, _, σ14, fr_join ⟨rfl, trivial⟩, rfl, H.sel' [1] rfl rfl, ht15, hn16⟩
  ·clear hj
   have h := h'
   clear h' H
   rintro e a w ⟨rfl, ρ, σ42, rfl, rfl, H, ht43, hn44⟩
   refine q_then (c_seq (rg (st (v := (Sl (some ⟨b8, 0, none⟩) o12 c9)) (rv_move rfl) (st (v := (Sl (some ⟨b8, 0, none⟩) o12 c9)) (rv_assign rfl) (w_end (q_then (c_ret ?_)))))))
   obtain rfl := Option.some.inj h
   exact fin_ret (v := (Sl (some ⟨b8, 0, none⟩) o12 c9)) (results_ok Try.results24 (res_tmp (v := (Sl (some ⟨b8, 0, none⟩) o12 c9)) rfl res_nil) rfl) ⟨(some ⟨b8, 0, none⟩), c9, rfl, rfl, ht43⟩ (H.sel' [0] rfl rfl)

theorem c_spec_reader_pick {Bo : (List UInt8) × Int} {Bp : Int} {Bq : Option Addr} {Br : Nat} {Bs Bt Bu : Nat} {Bv Bw : List Value} {r : Int × ((List UInt8) × Int)} (h : M.spec_reader_pick Bo Bp = some r) :
    Cal2 Try.prog 68 [(pt Bt Bu), (I Bp)] [Ch.bx Bs Bt Bu [(Sl Bq Bo.1 Br), (I Bo.2)] Bv Bw, Ch.ro 0 (Sl Bq Bo.1 Br) Bo.1] (fun n0 v L => ∃ (az1 : Option Addr), ∃ (cz2 : Nat), v = (I r.1) ∧ L = [Ch.bx Bs Bt Bu [(Sl az1 r.2.1 cz2), (I r.2.2)] Bv Bw, Ch.ro 0 (Sl az1 r.2.1 cz2) r.2.1]) := by
 refine cal2 (n := 99) Try.func68 rfl rfl rfl rfl ?_
 intro S0 σ0 n0 hn0 H
 unfold M.spec_reader_pick at h
 refine c_seq (rg (st (v := (I 0)) (rv_assign rfl) (w_end (q_then (c_seq (rg (st (v := (pt Bt Bu)) (rv_move rfl) (st (v := (pt Bt Bu)) (rv_move rfl) (st (v := (pt Bt Bu)) (rv_nilCheck rfl) (st (v := (pt Bt (Bu + 1))) (rv_fieldAddr (off := 1) (ft := 3) Try.underlying71 rfl ti3 rfl rfl) ?_))))))))))
 have hc1 := H.cell (u := (I Bo.2)) (o' := (Bu + 1)) 0 1 rfl rfl rfl
 refine st (v := (I Bo.2)) (rv_load1 Try.underlying3 rfl rfl hc1) (st (v := (I (w64 (Bo.2 + 1)))) (rv_add (a := Bo.2) (b := 1) rfl rfl) (st (v := (pt Bt Bu)) (rv_nilCheck rfl) (st (v := (pt Bt (Bu + 1))) (rv_fieldAddr (off := 1) (ft := 3) Try.underlying71 rfl ti3 rfl rfl) ?_)))
 refine st_exS (ex_store_box (k := 1) (cs := [(Sl Bq Bo.1 Br), (I Bo.2)]) (vs := [(I (w64 (Bo.2 + 1)))]) (cs' := [(Sl Bq Bo.1 Br), (I (w64 (Bo.2 + 1)))]) H (i := 0) rfl ti3 rfl rfl rfl rfl rfl (Nat.le_of_ble_eq_true rfl) (by simp [plain]) rfl) wn ?_
 rintro σ2 ⟨H, -⟩
 refine w_end (q_then (c_seq (c_seq ?_)))
 obtain ⟨o3, hj, h'⟩ := bind_some h
 clear h
 refine c_cut (fun e a w => e = .normal ∧ ∃ (ρ : Nat → Value) (σ : St), a = fr 99 (updL ρ [(0, (pt Bt Bu)), (1, (I Bp)), (24, (B o3))]) ∧ w = σ.w ∧ Hp S0 σ0 σ [Ch.ro 0 (Sl Bq Bo.1 Br) Bo.1, Ch.bx Bs Bt Bu [(Sl Bq Bo.1 Br), (I (w64 (Bo.2 + 1)))] Bv Bw]) ?_ ?_
 ·clear h'
  rename _ = some o3 => h
  refine rg (st (v := (I Bp)) (rv_move rfl) (st (v := (B (decide (Bp < 1)))) (rv_lss (a := Bp) (b := 1) rfl rfl) (st (v := (B (decide (Bp < 1)))) (rv_move rfl) ?_)))
  rcases Bool.eq_false_or_eq_true (decide (Bp < 1)) with hb4 | hb4
  ·replace h := bif_t hb4 h
   refine st_skip (congrArg some hb4) (st_skip (congrArg some hb4) (st_skip (congrArg some hb4) (st_skip (congrArg some hb4) (st_skip (congrArg some hb4) (st_skip (congrArg some hb4) (st (v := (B true)) (rv_pick_t (congrArg B hb4) rfl) (w_end ?_)))))))
   obtain rfl := Option.some.inj h
   exact ⟨rfl, _, σ2, fr_join ⟨rfl, rfl, rfl, trivial⟩, rfl, H.sel' [1, 0] rfl rfl⟩
  ·replace h := bif_f hb4 h
   refine st_g (v := (pt Bt Bu)) (congrArg some hb4) (rv_move rfl) (st_g (v := (pt Bt Bu)) (congrArg some hb4) (rv_nilCheck rfl) (st_g (v := (pt Bt Bu)) (congrArg some hb4) (rv_fieldAddr (off := 0) (ft := 22) Try.underlying71 rfl ti22 rfl rfl) ?_))
   have hc5 := H.cell (u := (Sl Bq Bo.1 Br)) (o' := Bu) 0 0 rfl rfl rfl
   refine st_g (v := (Sl Bq Bo.1 Br)) (congrArg some hb4) (rv_load1 Try.underlying22 rfl rfl hc5) (st_g (v := (I (Bo.1.length : Int))) (congrArg some hb4) (rv_len Try.underlying22 rfl) (st_g (v := (B ((Bo.1.length : Int) == 0))) (congrArg some hb4) (rv_eql (a := (Bo.1.length : Int)) (b := 0) rfl rfl) (st (v := (B ((Bo.1.length : Int) == 0))) (rv_pick_f (congrArg B hb4) rfl) (w_end ?_))))
   obtain rfl := Option.some.inj h
   exact ⟨rfl, _, σ2, fr_join ⟨rfl, rfl, rfl, trivial⟩, rfl, H.sel' [1, 0] rfl rfl⟩
 ·clear hj
  have h := h'
  clear h' H
  rintro e a w ⟨rfl, ρ, σ6, rfl, rfl, H⟩
  refine q_then ?_
  refine cd_cond o3 rfl (fun hb7 => ?_) (fun hb7 => ?_)
  ·replace h := bif_t hb7 h
   refine c_seq (rg (st (v := (I 0)) (rv_assign rfl) (w_end (q_then (c_ret (q_then_r ?_))))))
   obtain rfl := Option.some.inj h
   exact fin_ret (v := (I 0)) (results_ok Try.results68 (res_tmp (v := (I 0)) rfl res_nil) rfl) ⟨Bq, Br, rfl, rfl⟩ (H.sel' [1, 0] rfl rfl)
  ·replace h := bif_f hb7 h
   refine c_skip (q_then (c_seq (rg (st (v := (pt Bt Bu)) (rv_move rfl) (st (v := (pt Bt Bu)) (rv_nilCheck rfl) (st (v := (pt Bt (Bu + 1))) (rv_fieldAddr (off := 1) (ft := 3) Try.underlying71 rfl ti3 rfl rfl) ?_))))))
   have hc8 := H.cell (u := (I (w64 (Bo.2 + 1)))) (o' := (Bu + 1)) 1 1 rfl rfl rfl
   refine st (v := (I (w64 (Bo.2 + 1)))) (rv_load1 Try.underlying3 rfl rfl hc8) (st (v := (I (w64 ((w64 (Bo.2 + 1)) - 1)))) (rv_sub (a := (w64 (Bo.2 + 1))) (b := 1) rfl rfl) (st (v := (I (w64 ((w64 (Bo.2 + 1)) - 1)))) (rv_assign rfl) (w_end (q_then (c_seq (c_seq (rg (st (v := (I (w64 ((w64 (Bo.2 + 1)) - 1)))) (rv_move rfl) (st (v := (pt Bt Bu)) (rv_move rfl) (st (v := (pt Bt Bu)) (rv_nilCheck rfl) (st (v := (pt Bt Bu)) (rv_fieldAddr (off := 0) (ft := 22) Try.underlying71 rfl ti22 rfl rfl) ?_)))))))))))
   have hc9 := H.cell (u := (Sl Bq Bo.1 Br)) (o' := Bu) 1 0 rfl rfl rfl
   refine st (v := (Sl Bq Bo.1 Br)) (rv_load1 Try.underlying22 rfl rfl hc9) (st (v := (I (Bo.1.length : Int))) (rv_len Try.underlying22 rfl) (st (v := (B (decide ((w64 ((w64 (Bo.2 + 1)) - 1)) < (Bo.1.length : Int))))) (rv_lss (a := (w64 ((w64 (Bo.2 + 1)) - 1))) (b := (Bo.1.length : Int)) rfl rfl) (w_end (q_then ?_))))
   refine cd_cond (decide ((w64 ((w64 (Bo.2 + 1)) - 1)) < (Bo.1.length : Int))) rfl (fun hb10 => ?_) (fun hb10 => ?_)
   ·replace h := bif_t hb10 h
    refine c_seq (rg (st (v := (pt Bt Bu)) (rv_move rfl) (st (v := (pt Bt Bu)) (rv_nilCheck rfl) (st (v := (pt Bt Bu)) (rv_fieldAddr (off := 0) (ft := 22) Try.underlying71 rfl ti22 rfl rfl) ?_))))
    have hc11 := H.cell (u := (Sl Bq Bo.1 Br)) (o' := Bu) 1 0 rfl rfl rfl
    refine st (v := (Sl Bq Bo.1 Br)) (rv_load1 Try.underlying22 rfl rfl hc11) (st (v := (I (w64 ((w64 (Bo.2 + 1)) - 1)))) (rv_move rfl) ?_)
    obtain ⟨x12, hx13, h'⟩ := bind_some h
    clear h
    have h := h'; clear h'
    obtain ⟨b15, o16, hi14, -⟩ := (H.ro 0 rfl).ix hx13
    refine st (v := (pt b15 o16)) (rv_ix Try.underlying22 ti5 rfl rfl hi14) ?_
    have hc17 := ((H.ro 0 rfl).at hx13 hi14).byte
    refine st (v := (.int .u8 (x12.toNat : Int))) (rv_load1 Try.underlying5 rfl rfl hc17) (st (v := (I (w64 (x12.toNat : Int)))) (rv_conv Try.underlying5 Try.underlying3 rfl) (st (v := (I Bp)) (rv_move rfl) ?_))
    obtain ⟨q18, hx19, h'⟩ := bind_some h
    clear h
    have h := h'; clear h'
    refine st (v := (I q18)) (rv_remG (a := (w64 (x12.toNat : Int))) (b := Bp) hx19 rfl rfl) (st (v := (I q18)) (rv_assign rfl) (w_end (q_then (c_ret (q_then_r ?_)))))
    obtain rfl := Option.some.inj h
    exact fin_ret (v := (I q18)) (results_ok Try.results68 (res_tmp (v := (I q18)) rfl res_nil) rfl) ⟨Bq, Br, rfl, rfl⟩ (H.sel' [1, 0] rfl rfl)
   ·replace h := bif_f hb10 h
    refine c_skip (q_then (c_seq ?_))
    refine rgP (σ := σ6) 44 (by kernel_rfl) (by kernel_rfl) (by kernel_rfl) ?_
    refine sq (v := (pt Bt Bu)) (rv_move rfl) (sq (v := (pt Bt Bu)) (rv_nilCheck rfl) (sq (v := (pt Bt Bu)) (rv_fieldAddr (off := 0) (ft := 22) Try.underlying71 rfl ti22 rfl rfl) ?_))
    have hc20 := H.cell (u := (Sl Bq Bo.1 Br)) (o' := Bu) 1 0 rfl rfl rfl
    refine sq (v := (Sl Bq Bo.1 Br)) (rv_load1 Try.underlying22 rfl rfl hc20) (sq (v := (I (w64 ((w64 (Bo.2 + 1)) - 1)))) (rv_move rfl) (sq (v := (pt Bt Bu)) (rv_move rfl) (sq (v := (pt Bt Bu)) (rv_nilCheck rfl) (sq (v := (pt Bt Bu)) (rv_fieldAddr (off := 0) (ft := 22) Try.underlying71 rfl ti22 rfl rfl) ?_))))
    have hc21 := H.cell (u := (Sl Bq Bo.1 Br)) (o' := Bu) 1 0 rfl rfl rfl
    refine sq (v := (Sl Bq Bo.1 Br)) (rv_load1 Try.underlying22 rfl rfl hc21) (sq (v := (I (Bo.1.length : Int))) (rv_len Try.underlying22 rfl) ?_)
    obtain ⟨q22, hx23, h'⟩ := bind_some h
    clear h
    have h := h'; clear h'
    refine sq (v := (I q22)) (rv_remG (a := (w64 ((w64 (Bo.2 + 1)) - 1))) (b := (Bo.1.length : Int)) hx23 rfl rfl) ?_
    obtain ⟨x24, hx25, h'⟩ := bind_some h
    clear h
    have h := h'; clear h'
    obtain ⟨b27, o28, hi26, -⟩ := (H.ro 0 rfl).ix hx25
    refine sq (v := (pt b27 o28)) (rv_ix Try.underlying22 ti5 rfl rfl hi26) ?_
    have hc29 := ((H.ro 0 rfl).at hx25 hi26).byte
    refine sq (v := (.int .u8 (x24.toNat : Int))) (rv_load1 Try.underlying5 rfl rfl hc29) (sq (v := (I (w64 (x24.toNat : Int)))) (rv_conv Try.underlying5 Try.underlying3 rfl) (sq (v := (I (w64 ((w64 (x24.toNat : Int)) * 131)))) (rv_mul (a := (w64 (x24.toNat : Int))) (b := 131) rfl rfl) (sq (v := (pt Bt Bu)) (rv_move rfl) (sq (v := (pt Bt Bu)) (rv_nilCheck rfl) (sq (v := (pt Bt Bu)) (rv_fieldAddr (off := 0) (ft := 22) Try.underlying71 rfl ti22 rfl rfl) ?_)))))
    have hc30 := H.cell (u := (Sl Bq Bo.1 Br)) (o' := Bu) 1 0 rfl rfl rfl
    refine sq (v := (Sl Bq Bo.1 Br)) (rv_load1 Try.underlying22 rfl rfl hc30) (sq (v := (I (w64 ((w64 (Bo.2 + 1)) - 1)))) (rv_move rfl) (sq (v := (I (w64 ((w64 ((w64 (Bo.2 + 1)) - 1)) * 7)))) (rv_mul (a := (w64 ((w64 (Bo.2 + 1)) - 1))) (b := 7) rfl rfl) (sq (v := (I (w64 ((w64 ((w64 ((w64 (Bo.2 + 1)) - 1)) * 7)) + 3)))) (rv_add (a := (w64 ((w64 ((w64 (Bo.2 + 1)) - 1)) * 7))) (b := 3) rfl rfl) (sq (v := (pt Bt Bu)) (rv_move rfl) (sq (v := (pt Bt Bu)) (rv_nilCheck rfl) (sq (v := (pt Bt Bu)) (rv_fieldAddr (off := 0) (ft := 22) Try.underlying71 rfl ti22 rfl rfl) ?_))))))
    have hc31 := H.cell (u := (Sl Bq Bo.1 Br)) (o' := Bu) 1 0 rfl rfl rfl
    refine sq (v := (Sl Bq Bo.1 Br)) (rv_load1 Try.underlying22 rfl rfl hc31) (sq (v := (I (Bo.1.length : Int))) (rv_len Try.underlying22 rfl) ?_)
    obtain ⟨q32, hx33, h'⟩ := bind_some h
    clear h
    have h := h'; clear h'
    refine sq (v := (I q32)) (rv_remG (a := (w64 ((w64 ((w64 ((w64 (Bo.2 + 1)) - 1)) * 7)) + 3))) (b := (Bo.1.length : Int)) hx33 rfl rfl) ?_
    obtain ⟨x34, hx35, h'⟩ := bind_some h
    clear h
    have h := h'; clear h'
    obtain ⟨b37, o38, hi36, -⟩ := (H.ro 0 rfl).ix hx35
    refine sq (v := (pt b37 o38)) (rv_ix Try.underlying22 ti5 rfl rfl hi36) ?_
    have hc39 := ((H.ro 0 rfl).at hx35 hi36).byte
    refine sq (v := (.int .u8 (x34.toNat : Int))) (rv_load1 Try.underlying5 rfl rfl hc39) (sq (v := (I (w64 (x34.toNat : Int)))) (rv_conv Try.underlying5 Try.underlying3 rfl) (sq (v := (I (w64 ((w64 (x34.toNat : Int)) * 1117)))) (rv_mul (a := (w64 (x34.toNat : Int))) (b := 1117) rfl rfl) (sq (v := (I (w64 ((w64 ((w64 (x24.toNat : Int)) * 131)) + (w64 ((w64 (x34.toNat : Int)) * 1117)))))) (rv_add (a := (w64 ((w64 (x24.toNat : Int)) * 131))) (b := (w64 ((w64 (x34.toNat : Int)) * 1117))) rfl rfl) (sq (v := (I (w64 ((w64 (Bo.2 + 1)) - 1)))) (rv_move rfl) (sq (v := (I (w64 ((w64 ((w64 (Bo.2 + 1)) - 1)) * 29)))) (rv_mul (a := (w64 ((w64 (Bo.2 + 1)) - 1))) (b := 29) rfl rfl) (sq (v := (I (w64 ((w64 ((w64 ((w64 (x24.toNat : Int)) * 131)) + (w64 ((w64 (x34.toNat : Int)) * 1117)))) + (w64 ((w64 ((w64 (Bo.2 + 1)) - 1)) * 29)))))) (rv_add (a := (w64 ((w64 ((w64 (x24.toNat : Int)) * 131)) + (w64 ((w64 (x34.toNat : Int)) * 1117))))) (b := (w64 ((w64 ((w64 (Bo.2 + 1)) - 1)) * 29))) rfl rfl) (sq (v := (I (w64 ((w64 (Bo.2 + 1)) - 1)))) (rv_move rfl) (sq (v := (pt Bt Bu)) (rv_move rfl) (sq (v := (pt Bt Bu)) (rv_nilCheck rfl) (sq (v := (pt Bt Bu)) (rv_fieldAddr (off := 0) (ft := 22) Try.underlying71 rfl ti22 rfl rfl) ?_))))))))))
    have hc40 := H.cell (u := (Sl Bq Bo.1 Br)) (o' := Bu) 1 0 rfl rfl rfl
    refine sq (v := (Sl Bq Bo.1 Br)) (rv_load1 Try.underlying22 rfl rfl hc40) (sq (v := (I (Bo.1.length : Int))) (rv_len Try.underlying22 rfl) ?_)
    obtain ⟨q41, hx42, h'⟩ := bind_some h
    clear h
    have h := h'; clear h'
    refine sq (v := (I q41)) (rv_quoG (a := (w64 ((w64 (Bo.2 + 1)) - 1))) (b := (Bo.1.length : Int)) hx42 rfl rfl) (sq (v := (I (w64 (q41 * 53)))) (rv_mul (a := q41) (b := 53) rfl rfl) (sq_end ?_))
    intro σ43 hm44
    replace H := H.grow (hm44.mono fun _ h => h); clear hm44
    refine st (v := (I (w64 ((w64 ((w64 ((w64 ((w64 (x24.toNat : Int)) * 131)) + (w64 ((w64 (x34.toNat : Int)) * 1117)))) + (w64 ((w64 ((w64 (Bo.2 + 1)) - 1)) * 29)))) + (w64 (q41 * 53)))))) (rv_add (a := (w64 ((w64 ((w64 ((w64 (x24.toNat : Int)) * 131)) + (w64 ((w64 (x34.toNat : Int)) * 1117)))) + (w64 ((w64 ((w64 (Bo.2 + 1)) - 1)) * 29))))) (b := (w64 (q41 * 53))) rfl rfl) (st (v := (I (w64 ((w64 ((w64 ((w64 ((w64 (x24.toNat : Int)) * 131)) + (w64 ((w64 (x34.toNat : Int)) * 1117)))) + (w64 ((w64 ((w64 (Bo.2 + 1)) - 1)) * 29)))) + (w64 (q41 * 53)))))) (rv_assign rfl) (w_end (q_then (c_seq (rg (st (v := (I (w64 ((w64 ((w64 ((w64 ((w64 (x24.toNat : Int)) * 131)) + (w64 ((w64 (x34.toNat : Int)) * 1117)))) + (w64 ((w64 ((w64 (Bo.2 + 1)) - 1)) * 29)))) + (w64 (q41 * 53)))))) (rv_move rfl) (st (v := (I (w64 ((w64 ((w64 ((w64 ((w64 (x24.toNat : Int)) * 131)) + (w64 ((w64 (x34.toNat : Int)) * 1117)))) + (w64 ((w64 ((w64 (Bo.2 + 1)) - 1)) * 29)))) + (w64 (q41 * 53)))))) (rv_move rfl) ?_)))))))
    refine st (v := (I (w64 ((w64 ((w64 ((w64 ((w64 ((w64 (x24.toNat : Int)) * 131)) + (w64 ((w64 (x34.toNat : Int)) * 1117)))) + (w64 ((w64 ((w64 (Bo.2 + 1)) - 1)) * 29)))) + (w64 (q41 * 53)))).tdiv 64)))) (rv_quo (a := (w64 ((w64 ((w64 ((w64 ((w64 (x24.toNat : Int)) * 131)) + (w64 ((w64 (x34.toNat : Int)) * 1117)))) + (w64 ((w64 ((w64 (Bo.2 + 1)) - 1)) * 29)))) + (w64 (q41 * 53))))) (b := 64) rfl rfl (by decide)) ?_
    refine st (v := (I (gxor (w64 ((w64 ((w64 ((w64 ((w64 (x24.toNat : Int)) * 131)) + (w64 ((w64 (x34.toNat : Int)) * 1117)))) + (w64 ((w64 ((w64 (Bo.2 + 1)) - 1)) * 29)))) + (w64 (q41 * 53)))) (w64 ((w64 ((w64 ((w64 ((w64 ((w64 (x24.toNat : Int)) * 131)) + (w64 ((w64 (x34.toNat : Int)) * 1117)))) + (w64 ((w64 ((w64 (Bo.2 + 1)) - 1)) * 29)))) + (w64 (q41 * 53)))).tdiv 64))))) (rv_xor (a := (w64 ((w64 ((w64 ((w64 ((w64 (x24.toNat : Int)) * 131)) + (w64 ((w64 (x34.toNat : Int)) * 1117)))) + (w64 ((w64 ((w64 (Bo.2 + 1)) - 1)) * 29)))) + (w64 (q41 * 53))))) (b := (w64 ((w64 ((w64 ((w64 ((w64 ((w64 (x24.toNat : Int)) * 131)) + (w64 ((w64 (x34.toNat : Int)) * 1117)))) + (w64 ((w64 ((w64 (Bo.2 + 1)) - 1)) * 29)))) + (w64 (q41 * 53)))).tdiv 64))) rfl rfl) (st (v := (I (gxor (w64 ((w64 ((w64 ((w64 ((w64 (x24.toNat : Int)) * 131)) + (w64 ((w64 (x34.toNat : Int)) * 1117)))) + (w64 ((w64 ((w64 (Bo.2 + 1)) - 1)) * 29)))) + (w64 (q41 * 53)))) (w64 ((w64 ((w64 ((w64 ((w64 ((w64 (x24.toNat : Int)) * 131)) + (w64 ((w64 (x34.toNat : Int)) * 1117)))) + (w64 ((w64 ((w64 (Bo.2 + 1)) - 1)) * 29)))) + (w64 (q41 * 53)))).tdiv 64))))) (rv_assign rfl) (w_end (q_then (c_seq (rg (st (v := (I (gxor (w64 ((w64 ((w64 ((w64 ((w64 (x24.toNat : Int)) * 131)) + (w64 ((w64 (x34.toNat : Int)) * 1117)))) + (w64 ((w64 ((w64 (Bo.2 + 1)) - 1)) * 29)))) + (w64 (q41 * 53)))) (w64 ((w64 ((w64 ((w64 ((w64 ((w64 (x24.toNat : Int)) * 131)) + (w64 ((w64 (x34.toNat : Int)) * 1117)))) + (w64 ((w64 ((w64 (Bo.2 + 1)) - 1)) * 29)))) + (w64 (q41 * 53)))).tdiv 64))))) (rv_move rfl) (st (v := (I Bp)) (rv_move rfl) ?_)))))))
    obtain ⟨q45, hx46, h'⟩ := bind_some h
    clear h
    have h := h'; clear h'
    refine st (v := (I q45)) (rv_remG (a := (gxor (w64 ((w64 ((w64 ((w64 ((w64 (x24.toNat : Int)) * 131)) + (w64 ((w64 (x34.toNat : Int)) * 1117)))) + (w64 ((w64 ((w64 (Bo.2 + 1)) - 1)) * 29)))) + (w64 (q41 * 53)))) (w64 ((w64 ((w64 ((w64 ((w64 ((w64 (x24.toNat : Int)) * 131)) + (w64 ((w64 (x34.toNat : Int)) * 1117)))) + (w64 ((w64 ((w64 (Bo.2 + 1)) - 1)) * 29)))) + (w64 (q41 * 53)))).tdiv 64)))) (b := Bp) hx46 rfl rfl) (st (v := (I q45)) (rv_assign rfl) (w_end (q_then (c_ret ?_))))
    obtain rfl := Option.some.inj h
    exact fin_ret (v := (I q45)) (results_ok Try.results68 (res_tmp (v := (I q45)) rfl res_nil) rfl) ⟨Bq, Br, rfl, rfl⟩ (H.sel' [1, 0] rfl rfl)

theorem c_spec_copyInts {Ak : List Int} {Am : Option Addr} {Ao : Nat} {r : (List Int)} (h : M.spec_copyInts Ak = some r) :
    Cal2 Try.prog 61 [(Sl Am Ak Ao)] [Ch.ro 0 (Sl Am Ak Ao) Ak] (fun n0 v L => ∃ (az1 : Option Addr), ∃ (cz2 : Nat), v = (Sl az1 r cz2) ∧ L = [Ch.own n0 n0 (Sl az1 r cz2) r]) := by
 refine cal2 (n := 6) Try.func61 rfl rfl rfl rfl ?_
 intro S0 σ0 n0 hn0 H
 unfold M.spec_copyInts at h
 refine c_seq (rg (st (v := (.slice none 0 0)) (rv_assign rfl) (w_end (q_then (c_seq (rg ?_))))))
 refine st_ex (ex_buildSlice (el := n0) (xs := ([] : List Int)) (ps := []) (cs := []) H hn0 Try.underlying27 ti3 rfl rfl (by kernel_rfl) (.nil) rfl) wn ?_
 rintro _ σ2 ⟨b1, rfl, H, -⟩
 refine st (v := (Sl Am Ak Ao)) (rv_move rfl) ?_
 obtain ⟨xs3, hx4, h'⟩ := bind_some h
 clear h
 have h := h'; clear h'
 refine st_ex (ex_append H (i := 0) rfl Try.underlying27 Try.underlying27 ti3 rfl rfl (by decide) ((H.ro 1 rfl).rd.sc) hx4 hn0 rfl rfl) wn ?_
 rintro _ σ7 ⟨a5, c6, rfl, H, -⟩
 refine st (v := (Sl a5 xs3 c6)) (rv_assign rfl) (w_end (q_then (c_ret ?_)))
 obtain rfl := Option.some.inj h
 exact fin_ret (v := (Sl a5 xs3 c6)) (results_ok Try.results61 (res_tmp (v := (Sl a5 xs3 c6)) rfl res_nil) rfl) ⟨a5, c6, rfl, rfl⟩ (H.sel' [0] rfl rfl)

theorem c_spec_reader_one {Bo : (List UInt8) × Int} {Bl : List Int} {Bq : Option Addr} {Br : Nat} {Bs Bt Bu : Nat} {Bv Bw : List Value} {Bm : Option Addr} {Bn : Nat} {r : Int × ((List UInt8) × Int)} (h : M.spec_reader_one Bo Bl = some r) :
    Cal2 Try.prog 67 [(pt Bt Bu), (Sl Bm Bl Bn)] [Ch.bx Bs Bt Bu [(Sl Bq Bo.1 Br), (I Bo.2)] Bv Bw, Ch.ro 0 (Sl Bq Bo.1 Br) Bo.1, Ch.ro 0 (Sl Bm Bl Bn) Bl] (fun n0 v L => ∃ (az1 : Option Addr), ∃ (cz2 : Nat), v = (I r.1) ∧ L = [Ch.bx Bs Bt Bu [(Sl az1 r.2.1 cz2), (I r.2.2)] Bv Bw, Ch.ro 0 (Sl az1 r.2.1 cz2) r.2.1]) := by
 refine cal2 (n := 12) Try.func67 rfl rfl rfl rfl ?_
 intro S0 σ0 n0 hn0 H
 unfold M.spec_reader_one at h
 refine c_seq (rg (st (v := (I 0)) (rv_assign rfl) (w_end (q_then (c_seq (rg (st (v := (Sl Bm Bl Bn)) (rv_move rfl) (st (v := (pt Bt Bu)) (rv_move rfl) (st (v := (Sl Bm Bl Bn)) (rv_move rfl) (st (v := (I (Bl.length : Int))) (rv_len Try.underlying27 rfl) ?_))))))))))
 obtain ⟨r1, hx2, h'⟩ := bind_some h
 clear h
 have h := h'; clear h'
 have hc3 := c_spec_reader_pick (Bs := Bs) (Bt := Bt) (Bu := Bu) (Bv := Bv) (Bw := Bw) (Bq := Bq) (Br := Br) hx2
 refine st_call (cx_call hc3 (ent_f hc3.fn rfl) hn0 (H.sel' [0, 1, 1, 2] rfl rfl : Hp S0 σ0 _ ([_, _] ++ _))) wn ?_
 rintro _ σ6 ⟨_, ⟨a4, c5, rfl, rfl⟩, H, -⟩
 replace H : Hp _ _ _ [_, _, _, _] := H
 obtain ⟨x7, hx8, h'⟩ := bind_some h
 clear h
 have h := h'; clear h'
 obtain ⟨b10, o11, hi9, -⟩ := (H.ro 3 rfl).ix hx8
 refine st (v := (pt b10 o11)) (rv_ix Try.underlying27 ti3 rfl rfl hi9) ?_
 have hc12 := ((H.ro 3 rfl).at hx8 hi9).int
 refine st (v := (I x7)) (rv_load1 Try.underlying3 rfl rfl hc12) (st (v := (I x7)) (rv_assign rfl) (w_end (q_then (c_ret ?_))))
 obtain rfl := Option.some.inj h
 exact fin_ret (v := (I x7)) (results_ok Try.results67 (res_tmp (v := (I x7)) rfl res_nil) rfl) ⟨a4, c5, rfl, rfl⟩ (H.sel' [0, 1] rfl rfl)

theorem c_spec_reader_spoil {Bo : (List UInt8) × Int} {Bl : List Int} {By : Int} {Bq : Option Addr} {Br : Nat} {Bs Bt Bu : Nat} {Bv Bw : List Value} {Bm : Option Addr} {Bn : Nat} {r : (List Int) × ((List UInt8) × Int)} (h : M.spec_reader_spoil Bo Bl By = some r) :
    Cal2 Try.prog 70 [(pt Bt Bu), (Sl Bm Bl Bn), (I By)] [Ch.bx Bs Bt Bu [(Sl Bq Bo.1 Br), (I Bo.2)] Bv Bw, Ch.ro 0 (Sl Bq Bo.1 Br) Bo.1, Ch.ro 0 (Sl Bm Bl Bn) Bl] (fun n0 v L => ∃ (az1 : Option Addr), ∃ (cz2 : Nat), ∃ (az3 : Option Addr), ∃ (cz4 : Nat), v = (Sl az1 r.1 cz2) ∧ L = [Ch.own n0 n0 (Sl az1 r.1 cz2) r.1, Ch.bx Bs Bt Bu [(Sl az3 r.2.1 cz4), (I r.2.2)] Bv Bw, Ch.ro 0 (Sl az3 r.2.1 cz4) r.2.1]) := by
 refine cal2 (n := 41) Try.func70 rfl rfl rfl rfl ?_
 intro S0 σ0 n0 hn0 H
 unfold M.spec_reader_spoil at h
 refine c_seq (rg (st (v := (.slice none 0 0)) (rv_assign rfl) (w_end (q_then (c_seq (rg (st (v := (Sl Bm Bl Bn)) (rv_move rfl) ?_)))))))
 obtain ⟨r1, hx2, h'⟩ := bind_some h
 clear h
 have h := h'; clear h'
 have hc3 := c_spec_copyInts (Am := Bm) (Ao := Bn) hx2
 refine st_call (cx_call hc3 (ent_f hc3.fn rfl) hn0 (H.sel' [2, 0, 1, 2] rfl rfl : Hp S0 σ0 _ ([_] ++ _))) wn ?_
 rintro _ σ6 ⟨_, ⟨a4, c5, rfl, rfl⟩, H, -⟩
 replace H : Hp _ _ _ [_, _, _, _] := H
 refine st (v := (Sl a4 r1 c5)) (rv_assign rfl) (w_end (q_then (c_seq (c_seq (rg (st (v := (pt Bt Bu)) (rv_move rfl) ?_))))))
 obtain ⟨r7, hx8, h'⟩ := bind_some h
 clear h
 have h := h'; clear h'
 have hc9 := c_spec_reader_pick (Bs := Bs) (Bt := Bt) (Bu := Bu) (Bv := Bv) (Bw := Bw) (Bq := Bq) (Br := Br) hx8
 refine st_call (cx_call hc9 (ent_f hc9.fn rfl) hn0 (H.sel' [1, 2, 0, 2, 3] rfl rfl : Hp S0 σ0 _ ([_, _] ++ _))) wn ?_
 rintro _ σ12 ⟨_, ⟨a10, c11, rfl, rfl⟩, H, -⟩
 replace H : Hp _ _ _ [_, _, _, _, _] := H
 refine w_end (q_then ?_)
 obtain ⟨o13, hj, h'⟩ := bind_some h
 clear h
 refine c_cut (fun e a w => e = .normal ∧ ∃ (ρ : Nat → Value) (σ : St) (aj1 : Option Addr) (cj2 : Nat) (aj3 : Option Addr) (cj4 : Nat), a = fr 41 (updL ρ [(0, (pt Bt Bu)), (7, (Sl aj3 o13.2 cj4))]) ∧ w = σ.w ∧ Hp S0 σ0 σ [Ch.bx Bs Bt Bu [(Sl aj1 o13.1.1 cj2), (I o13.1.2)] Bv Bw, Ch.ro 0 (Sl aj1 o13.1.1 cj2) o13.1.1, Ch.own n0 n0 (Sl aj3 o13.2 cj4) o13.2]) ?_ ?_
 ·clear h'
  rename _ = some o13 => h
  refine c_blk (c_seq (rg (st (v := (B (r7.1 == 0))) (rv_eql (a := r7.1) (b := 0) rfl rfl) (st (v := (B (r7.1 == 0))) (rv_assign rfl) (w_end (q_then ?_))))))
  refine cd_cond (r7.1 == 0) rfl (fun hb14 => ?_) (fun hb14 => ?_)
  ·replace h := bif_t hb14 h
   refine rg (st (v := (Sl a4 r1 c5)) (rv_move rfl) (st (v := (I By)) (rv_move rfl) ?_))
   refine st_ex (ex_buildSlice (el := n0) (xs := ([By] : List Int)) (ps := [(0, (I By))]) (cs := [(I By)]) H hn0 Try.underlying27 ti3 rfl rfl (by kernel_rfl) (.cons (c := [(I By)]) rfl (.nil)) rfl) wn ?_
   rintro _ σ16 ⟨b15, rfl, H, -⟩
   obtain ⟨xs17, hx18, h'⟩ := bind_some h
   clear h
   have h := h'; clear h'
   refine st_ex (ex_append H (i := 3) rfl Try.underlying27 Try.underlying27 ti3 rfl rfl (by decide) (H.own 0 rfl).rd hx18 hn0 rfl rfl) wn ?_
   rintro _ σ21 ⟨a19, c20, rfl, H, -⟩
   refine st (v := (Sl a19 xs17 c20)) (rv_assign rfl) (w_end (q_blk ?_))
   obtain rfl := Option.some.inj h
   exact ⟨rfl, _, σ21, a10, c11, a19, c20, fr_join ⟨rfl, rfl, trivial⟩, rfl, H.sel' [2, 3, 0] rfl rfl⟩
  ·replace h := bif_f hb14 h
   refine c_seq (rg (st (v := (B (r7.1 == 1))) (rv_eql (a := r7.1) (b := 1) rfl rfl) (st (v := (B (r7.1 == 1))) (rv_assign rfl) (w_end (q_then ?_)))))
   refine cd_cond (r7.1 == 1) rfl (fun hb22 => ?_) (fun hb22 => ?_)
   ·replace h := bif_t hb22 h
    refine c_seq (rg (st (v := (Sl a4 r1 c5)) (rv_move rfl) (st (v := (I (r1.length : Int))) (rv_len Try.underlying27 rfl) (st (v := (B (decide (0 < (r1.length : Int))))) (rv_gtr (a := (r1.length : Int)) (b := 0) rfl rfl) (w_end (q_then ?_))))))
    refine cd_cond (decide (0 < (r1.length : Int))) rfl (fun hb23 => ?_) (fun hb23 => ?_)
    ·replace h := bif_t hb23 h
     refine rg (st (v := (Sl a4 r1 c5)) (rv_move rfl) ?_)
     obtain ⟨xs24, hx25, h'⟩ := bind_some h
     clear h
     have h := h'; clear h'
     obtain ⟨a26, c27, hs28, hR29, hb30⟩ := (H.own 2 rfl).slice hx25
     replace H := (H.front (i := 2) rfl).turn (d := Ch.own n0 n0 (Sl a26 xs24 c27) xs24) (fun _ => hR29) hb30; clear hR29 hb30
     refine st (v := (Sl a26 xs24 c27)) (rv_slice_l Try.underlying27 ti3 hs28 rfl rfl) (st (v := (Sl a26 xs24 c27)) (rv_assign rfl) (w_end (q_blk ?_)))
     obtain rfl := Option.some.inj h
     exact ⟨rfl, _, σ12, a10, c11, a26, c27, fr_join ⟨rfl, rfl, trivial⟩, rfl, H.sel' [1, 2, 0] rfl rfl⟩
    ·replace h := bif_f hb23 h
     refine c_skip (q_blk ?_)
     obtain rfl := Option.some.inj h
     exact ⟨rfl, _, σ12, a10, c11, a4, c5, fr_join ⟨rfl, rfl, trivial⟩, rfl, H.sel' [0, 1, 2] rfl rfl⟩
   ·replace h := bif_f hb22 h
    refine c_seq (rg (st (v := (B (r7.1 == 2))) (rv_eql (a := r7.1) (b := 2) rfl rfl) (st (v := (B (r7.1 == 2))) (rv_assign rfl) (w_end (q_then ?_)))))
    refine cd_cond (r7.1 == 2) rfl (fun hb31 => ?_) (fun hb31 => ?_)
    ·replace h := bif_t hb31 h
     refine c_seq (rg (st (v := (Sl a4 r1 c5)) (rv_move rfl) (st (v := (I (r1.length : Int))) (rv_len Try.underlying27 rfl) (st (v := (B (decide (0 < (r1.length : Int))))) (rv_gtr (a := (r1.length : Int)) (b := 0) rfl rfl) (w_end (q_then ?_))))))
     refine cd_cond (decide (0 < (r1.length : Int))) rfl (fun hb32 => ?_) (fun hb32 => ?_)
     ·replace h := bif_t hb32 h
      refine rg (st (v := (Sl a4 r1 c5)) (rv_move rfl) (st (v := (pt Bt Bu)) (rv_move rfl) (st (v := (Sl a4 r1 c5)) (rv_move rfl) (st (v := (I (r1.length : Int))) (rv_len Try.underlying27 rfl) ?_))))
      obtain ⟨r33, hx34, h'⟩ := bind_some h
      clear h
      have h := h'; clear h'
      have hc35 := c_spec_reader_pick (Bs := Bs) (Bt := Bt) (Bu := Bu) (Bv := Bv) (Bw := Bw) (Bq := a10) (Br := c11) hx34
      refine st_call (cx_call hc35 (ent_f hc35.fn rfl) hn0 (H.sel' [0, 1, 1, 2, 3, 4] rfl rfl : Hp S0 σ0 _ ([_, _] ++ _))) wn ?_
      rintro _ σ38 ⟨_, ⟨a36, c37, rfl, rfl⟩, H, -⟩
      replace H : Hp _ _ _ [_, _, _, _, _, _] := H
      refine st (v := (pt Bt Bu)) (rv_move rfl) (st (v := (I By)) (rv_move rfl) ?_)
      refine st_ex (ex_buildSlice (el := n0) (xs := ([-1, By, 0, 1] : List Int)) (ps := [(0, (I (-1))), (1, (I By)), (2, (I 0)), (3, (I 1))]) (cs := [(I (-1)), (I By), (I 0), (I 1)]) H hn0 Try.underlying27 ti3 rfl rfl (by kernel_rfl) (.cons (c := [(I (-1))]) rfl (.cons (c := [(I By)]) rfl (.cons (c := [(I 0)]) rfl (.cons (c := [(I 1)]) rfl (.nil))))) rfl) wn ?_
      rintro _ σ40 ⟨b39, rfl, H, -⟩
      obtain ⟨σ41, hw42, H, -⟩ := H.pub 0 rfl (Nat.le_refl _)
      rw [← hw42]; clear hw42
      replace H := H.roLow 0 0 rfl (Nat.zero_le _)
      obtain ⟨r43, hx44, h'⟩ := bind_some h
      clear h
      have h := h'; clear h'
      have hc45 := c_spec_reader_one (Bs := Bs) (Bt := Bt) (Bu := Bu) (Bv := Bv) (Bw := Bw) (Bq := a36) (Br := c37) (Bm := (some ⟨b39, 0, none⟩)) (Bn := 4) hx44
      refine st_call (cx_call hc45 (ent_f hc45.fn rfl) hn0 (H.sel' [2, 3, 0, 0, 1, 3, 4, 5, 6, 7] rfl rfl : Hp S0 σ0 _ ([_, _, _] ++ _))) wn ?_
      rintro _ σ48 ⟨_, ⟨a46, c47, rfl, rfl⟩, H, -⟩
      replace H : Hp _ _ _ [_, _, _, _, _, _, _, _, _] := H
      replace H : Hp S0 σ0 σ48 [Ch.bx Bs Bt Bu [(Sl a46 r43.2.1 c47), (I r43.2.2)] Bv Bw, Ch.ro 0 (Sl a46 r43.2.1 c47) r43.2.1, Ch.own n0 n0 (Sl a4 r1 c5) r1] := H.sel' [0, 1, 6] rfl rfl
      obtain ⟨x49, hx50, h'⟩ := bind_some h
      clear h
      have h := h'; clear h'
      obtain ⟨b52, o53, hi51, -⟩ := (H.own 2 rfl).ix hx50
      refine st (v := (pt b52 o53)) (rv_ix Try.underlying27 ti3 rfl rfl hi51) ?_
      refine st_exS (ex_store_own (e' := r43.1) (vs := [(I r43.1)]) (k := 0) H (i := 2) rfl ti3 hx50 hi51 rfl rfl rfl rfl rfl (Nat.le_of_ble_eq_true rfl) (by simp [plain]) (by rintro _ rfl; exact rfl)) wn ?_
      rintro σ54 ⟨H, -⟩
      have hsl : (Sl a4 r1 c5) = (Sl a4 (r1.set r33.1.toNat r43.1) c5) := sl_len List.length_set.symm
      rw [hsl]; rw [hsl] at H; clear hsl
      refine w_end (q_blk ?_)
      obtain rfl := Option.some.inj h
      exact ⟨rfl, _, σ54, a46, c47, a4, c5, fr_join ⟨rfl, rfl, trivial⟩, rfl, H.sel' [1, 2, 0] rfl rfl⟩
     ·replace h := bif_f hb32 h
      refine c_skip (q_blk ?_)
      obtain rfl := Option.some.inj h
      exact ⟨rfl, _, σ12, a10, c11, a4, c5, fr_join ⟨rfl, rfl, trivial⟩, rfl, H.sel' [0, 1, 2] rfl rfl⟩
    ·replace h := bif_f hb31 h
     refine c_skip (q_blk ?_)
     obtain rfl := Option.some.inj h
     exact ⟨rfl, _, σ12, a10, c11, a4, c5, fr_join ⟨rfl, rfl, trivial⟩, rfl, H.sel' [0, 1, 2] rfl rfl⟩
 ·clear hj
  have h := h'
  clear h' H
  rintro e a w ⟨rfl, ρ, σ55, a56, c57, a58, c59, rfl, rfl, H⟩
  refine q_then (c_seq (rg (st (v := (Sl a58 o13.2 c59)) (rv_move rfl) (st (v := (Sl a58 o13.2 c59)) (rv_assign rfl) (w_end (q_then (c_ret ?_)))))))
  obtain rfl := Option.some.inj h
  exact fin_ret (v := (Sl a58 o13.2 c59)) (results_ok Try.results70 (res_tmp (v := (Sl a58 o13.2 c59)) rfl res_nil) rfl) ⟨a58, c59, a56, c57, rfl, rfl⟩ (H.sel' [2, 0, 1] rfl rfl)

theorem c_spec_someCoord {Bo : (List UInt8) × Int} {Bq : Option Addr} {Br : Nat} {Bs Bt Bu : Nat} {Bv Bw : List Value} {r : Int × ((List UInt8) × Int)} (h : M.spec_someCoord Bo = some r) :
    Cal2 Try.prog 80 [(pt Bt Bu)] [Ch.bx Bs Bt Bu [(Sl Bq Bo.1 Br), (I Bo.2)] Bv Bw, Ch.ro 0 (Sl Bq Bo.1 Br) Bo.1] (fun n0 v L => ∃ (az1 : Option Addr), ∃ (cz2 : Nat), v = (I r.1) ∧ L = [Ch.bx Bs Bt Bu [(Sl az1 r.2.1 cz2), (I r.2.2)] Bv Bw, Ch.ro 0 (Sl az1 r.2.1 cz2) r.2.1]) := by
 refine cal2 (n := 12) Try.func80 rfl rfl rfl rfl ?_
 intro S0 σ0 n0 hn0 H
 unfold M.spec_someCoord at h
 refine c_seq (rg (st (v := (I 0)) (rv_assign rfl) (w_end (q_then (c_seq (rg (st (v := (pt Bt Bu)) (rv_move rfl) (st (v := (pt Bt Bu)) (rv_move rfl) ?_))))))))
 obtain ⟨r1, hx2, h'⟩ := bind_some h
 clear h
 have h := h'; clear h'
 have hc3 := c_spec_reader_pick (Bs := Bs) (Bt := Bt) (Bu := Bu) (Bv := Bv) (Bw := Bw) (Bq := Bq) (Br := Br) hx2
 refine st_call (cx_call hc3 (ent_f hc3.fn rfl) hn0 (H.sel' [0, 1, 1] rfl rfl : Hp S0 σ0 _ ([_, _] ++ _))) wn ?_
 rintro _ σ6 ⟨_, ⟨a4, c5, rfl, rfl⟩, H, -⟩
 replace H : Hp _ _ _ [_, _, _] := H
 refine st (v := (I (w64 (r1.1 - 100)))) (rv_sub (a := r1.1) (b := 100) rfl rfl) (st (v := (pt Bt Bu)) (rv_move rfl) ?_)
 obtain ⟨r7, hx8, h'⟩ := bind_some h
 clear h
 have h := h'; clear h'
 have hc9 := c_spec_reader_pick (Bs := Bs) (Bt := Bt) (Bu := Bu) (Bv := Bv) (Bw := Bw) (Bq := a4) (Br := c5) hx8
 refine st_call (cx_call hc9 (ent_f hc9.fn rfl) hn0 (H.sel' [0, 1, 1, 2] rfl rfl : Hp S0 σ0 _ ([_, _] ++ _))) wn ?_
 rintro _ σ12 ⟨_, ⟨a10, c11, rfl, rfl⟩, H, -⟩
 replace H : Hp _ _ _ [_, _, _, _] := H
 refine st (v := (I (w64 (r7.1 - 10)))) (rv_sub (a := r7.1) (b := 10) rfl rfl) ?_
 refine st_ex (ex_buildSlice (el := n0) (xs := ([0, 1, -1, 5, -7, 10, 3, 100, -100, w64 (r1.1 - 100), w64 (r7.1 - 10)] : List Int)) (ps := [(0, (I 0)), (1, (I 1)), (2, (I (-1))), (3, (I 5)), (4, (I (-7))), (5, (I 10)), (6, (I 3)), (7, (I 100)), (8, (I (-100))), (9, (I (w64 (r1.1 - 100)))), (10, (I (w64 (r7.1 - 10))))]) (cs := [(I 0), (I 1), (I (-1)), (I 5), (I (-7)), (I 10), (I 3), (I 100), (I (-100)), (I (w64 (r1.1 - 100))), (I (w64 (r7.1 - 10)))]) H hn0 Try.underlying27 ti3 rfl rfl (by kernel_rfl) (.cons (c := [(I 0)]) rfl (.cons (c := [(I 1)]) rfl (.cons (c := [(I (-1))]) rfl (.cons (c := [(I 5)]) rfl (.cons (c := [(I (-7))]) rfl (.cons (c := [(I 10)]) rfl (.cons (c := [(I 3)]) rfl (.cons (c := [(I 100)]) rfl (.cons (c := [(I (-100))]) rfl (.cons (c := [(I (w64 (r1.1 - 100)))]) rfl (.cons (c := [(I (w64 (r7.1 - 10)))]) rfl (.nil)))))))))))) rfl) wn ?_
 rintro _ σ14 ⟨b13, rfl, H, -⟩
 obtain ⟨σ15, hw16, H, -⟩ := H.pub 0 rfl (Nat.le_refl _)
 rw [← hw16]; clear hw16
 replace H := H.roLow 0 0 rfl (Nat.zero_le _)
 obtain ⟨r17, hx18, h'⟩ := bind_some h
 clear h
 have h := h'; clear h'
 have hc19 := c_spec_reader_one (Bs := Bs) (Bt := Bt) (Bu := Bu) (Bv := Bv) (Bw := Bw) (Bq := a10) (Br := c11) (Bm := (some ⟨b13, 0, none⟩)) (Bn := 11) hx18
 refine st_call (cx_call hc19 (ent_f hc19.fn rfl) hn0 (H.sel' [2, 3, 0, 0, 1, 3, 4, 5] rfl rfl : Hp S0 σ0 _ ([_, _, _] ++ _))) wn ?_
 rintro _ σ22 ⟨_, ⟨a20, c21, rfl, rfl⟩, H, -⟩
 replace H : Hp _ _ _ [_, _, _, _, _, _, _] := H
 refine st (v := (I r17.1)) (rv_assign rfl) (w_end (q_then (c_ret ?_)))
 obtain rfl := Option.some.inj h
 exact fin_ret (v := (I r17.1)) (results_ok Try.results80 (res_tmp (v := (I r17.1)) rfl res_nil) rfl) ⟨a20, c21, rfl, rfl⟩ (H.sel' [0, 1] rfl rfl)

theorem c_spec_someVector {Bo : (List UInt8) × Int} {Bq : Option Addr} {Br : Nat} {Bs Bt Bu : Nat} {Bv Bw : List Value} {r : (List Int) × ((List UInt8) × Int)} (h : M.spec_someVector Bo = some r) :
    Cal2 Try.prog 71 [(pt Bt Bu)] [Ch.bx Bs Bt Bu [(Sl Bq Bo.1 Br), (I Bo.2)] Bv Bw, Ch.ro 0 (Sl Bq Bo.1 Br) Bo.1] (fun n0 v L => ∃ (az1 : Option Addr), ∃ (cz2 : Nat), ∃ (az3 : Option Addr), ∃ (cz4 : Nat), v = (Sl az1 r.1 cz2) ∧ L = [Ch.own n0 n0 (Sl az1 r.1 cz2) r.1, Ch.bx Bs Bt Bu [(Sl az3 r.2.1 cz4), (I r.2.2)] Bv Bw, Ch.ro 0 (Sl az3 r.2.1 cz4) r.2.1]) := by
 refine cal2 (n := 16) Try.func71 rfl rfl rfl rfl ?_
 intro S0 σ0 n0 hn0 H
 unfold M.spec_someVector at h
 refine c_seq (rg (st (v := (.slice none 0 0)) (rv_assign rfl) (w_end (q_then (c_seq (rg ?_))))))
 refine st_ex (ex_buildSlice (el := n0) (xs := ([] : List Int)) (ps := []) (cs := []) H hn0 Try.underlying27 ti3 rfl rfl (by kernel_rfl) (.nil) rfl) wn ?_
 rintro _ σ2 ⟨b1, rfl, H, -⟩
 refine st (v := (Sl (some ⟨b1, 0, none⟩) ([] : List Int) 0)) (rv_assign rfl) (w_end (q_then (c_seq (c_seq (rg (st (v := (I 0)) (rv_assign rfl) (w_end (q_then ?_))))))))
 obtain ⟨o3, hj, h'⟩ := bind_some h
 clear h
 refine c_cut (fun e a w => e = .normal ∧ ∃ (ρ : Nat → Value) (σ : St) (aj1 : Option Addr) (cj2 : Nat) (aj3 : Option Addr) (cj4 : Nat), a = fr 16 (updL ρ [(0, (pt Bt Bu)), (3, (Sl aj3 o3.2 cj4))]) ∧ w = σ.w ∧ Hp S0 σ0 σ [Ch.bx Bs Bt Bu [(Sl aj1 o3.1.1 cj2), (I o3.1.2)] Bv Bw, Ch.ro 0 (Sl aj1 o3.1.1 cj2) o3.1.1, Ch.own n0 n0 (Sl aj3 o3.2 cj4) o3.2]) ?_ ?_
 ·clear h'
  rename _ = some o3 => h
  refine c_blk (wp_loopM _ h (fun s4 a w => ∃ (ρ : Nat → Value) (σ : St) (aj1 : Option Addr) (cj2 : Nat) (aj3 : Option Addr) (cj4 : Nat), a = fr 16 (updL ρ [(0, (pt Bt Bu)), (3, (Sl aj3 s4.2.1 cj4)), (4, (I s4.2.2))]) ∧ w = σ.w ∧ Hp S0 σ0 σ [Ch.bx Bs Bt Bu [(Sl aj1 s4.1.1 cj2), (I s4.1.2)] Bv Bw, Ch.ro 0 (Sl aj1 s4.1.1 cj2) s4.1.1, Ch.own n0 n0 (Sl aj3 s4.2.1 cj4) s4.2.1]) ⟨_, σ2, Bq, Br, (some ⟨b1, 0, none⟩), 0, fr_join ⟨rfl, rfl, rfl, trivial⟩, rfl, H.sel' [1, 2, 0] rfl rfl⟩ ?_)
  clear h H
  rintro s4 a w o ⟨ρ, σ5, a6, c7, a8, c9, rfl, rfl, H⟩ h hres
  refine c_seq (c_seq (rg (st (v := (I s4.2.2)) (rv_move rfl) (st (v := (B (decide (s4.2.2 < 4)))) (rv_lss (a := s4.2.2) (b := 4) rfl rfl) (w_end (q_then ?_))))))
  refine cd_cond (decide (s4.2.2 < 4)) rfl (fun hb10 => ?_) (fun hb10 => ?_)
  ·replace h := bif_t hb10 h
   refine c_skip (q_then (c_seq (c_blk (rg (st (v := (Sl a8 s4.2.1 c9)) (rv_move rfl) (st (v := (pt Bt Bu)) (rv_move rfl) ?_))))))
   obtain ⟨r11, hx12, h'⟩ := bind_some h
   clear h
   have h := h'; clear h'
   have hc13 := c_spec_someCoord (Bs := Bs) (Bt := Bt) (Bu := Bu) (Bv := Bv) (Bw := Bw) (Bq := a6) (Br := c7) hx12
   refine st_call (cx_call hc13 (ent_f hc13.fn rfl) hn0 (H.sel' [0, 1, 1, 2] rfl rfl : Hp S0 σ0 _ ([_, _] ++ _))) wn ?_
   rintro _ σ16 ⟨_, ⟨a14, c15, rfl, rfl⟩, H, -⟩
   replace H : Hp _ _ _ [_, _, _, _] := H
   refine st_ex (ex_buildSlice (el := n0) (xs := ([r11.1] : List Int)) (ps := [(0, (I r11.1))]) (cs := [(I r11.1)]) H hn0 Try.underlying27 ti3 rfl rfl (by kernel_rfl) (.cons (c := [(I r11.1)]) rfl (.nil)) rfl) wn ?_
   rintro _ σ18 ⟨b17, rfl, H, -⟩
   obtain ⟨xs19, hx20, h'⟩ := bind_some h
   clear h
   have h := h'; clear h'
   refine st_ex (ex_append H (i := 4) rfl Try.underlying27 Try.underlying27 ti3 rfl rfl (by decide) (H.own 0 rfl).rd hx20 hn0 rfl rfl) wn ?_
   rintro _ σ23 ⟨a21, c22, rfl, H, -⟩
   refine st (v := (Sl a21 xs19 c22)) (rv_assign rfl) (w_end (q_blk (q_then (rg (st (v := (I s4.2.2)) (rv_move rfl) (st (v := (I (w64 (s4.2.2 + 1)))) (rv_add (a := s4.2.2) (b := 1) rfl rfl) (st (v := (I (w64 (s4.2.2 + 1)))) (rv_assign rfl) (w_end (q_then ?_)))))))))
   obtain rfl := Option.some.inj h
   exact ⟨_, rfl, _, σ23, a14, c15, a21, c22, fr_join ⟨rfl, rfl, rfl, trivial⟩, rfl, H.sel' [2, 3, 0] rfl rfl⟩
  ·replace h := bif_f hb10 h
   refine c_exit (q_then_x (q_then_x (q_blk_hit ?_)))
   obtain rfl := Option.some.inj h
   obtain rfl := hres _ rfl
   exact ⟨rfl, _, σ5, a6, c7, a8, c9, fr_join ⟨rfl, rfl, trivial⟩, rfl, H.sel' [0, 1, 2] rfl rfl⟩
 ·clear hj
  have h := h'
  clear h' H
  rintro e a w ⟨rfl, ρ, σ24, a25, c26, a27, c28, rfl, rfl, H⟩
  refine q_then (c_seq (rg (st (v := (Sl a27 o3.2 c28)) (rv_move rfl) (st (v := (Sl a27 o3.2 c28)) (rv_assign rfl) (w_end (q_then (c_ret ?_)))))))
  obtain rfl := Option.some.inj h
  exact fin_ret (v := (Sl a27 o3.2 c28)) (results_ok Try.results71 (res_tmp (v := (Sl a27 o3.2 c28)) rfl res_nil) rfl) ⟨a27, c28, a25, c26, rfl, rfl⟩ (H.sel' [2, 0, 1] rfl rfl)

theorem c_spec_anyVector {Bo : (List UInt8) × Int} {Bq : Option Addr} {Br : Nat} {Bs Bt Bu : Nat} {Bv Bw : List Value} {r : (List Int) × ((List UInt8) × Int)} (h : M.spec_anyVector Bo = some r) :
    Cal2 Try.prog 46 [(pt Bt Bu)] [Ch.bx Bs Bt Bu [(Sl Bq Bo.1 Br), (I Bo.2)] Bv Bw, Ch.ro 0 (Sl Bq Bo.1 Br) Bo.1] (fun n0 v L => ∃ (az1 : Option Addr), ∃ (cz2 : Nat), ∃ (az3 : Option Addr), ∃ (cz4 : Nat), v = (Sl az1 r.1 cz2) ∧ L = [Ch.own n0 n0 (Sl az1 r.1 cz2) r.1, Ch.bx Bs Bt Bu [(Sl az3 r.2.1 cz4), (I r.2.2)] Bv Bw, Ch.ro 0 (Sl az3 r.2.1 cz4) r.2.1]) := by
 refine cal2 (n := 12) Try.func46 rfl rfl rfl rfl ?_
 intro S0 σ0 n0 hn0 H
 unfold M.spec_anyVector at h
 refine c_seq (rg (st (v := (.slice none 0 0)) (rv_assign rfl) (w_end (q_then (c_seq (c_seq (rg (st (v := (pt Bt Bu)) (rv_move rfl) ?_))))))))
 obtain ⟨r1, hx2, h'⟩ := bind_some h
 clear h
 have h := h'; clear h'
 have hc3 := c_spec_reader_pick (Bs := Bs) (Bt := Bt) (Bu := Bu) (Bv := Bv) (Bw := Bw) (Bq := Bq) (Br := Br) hx2
 refine st_call (cx_call hc3 (ent_f hc3.fn rfl) hn0 (H.sel' [0, 1, 1] rfl rfl : Hp S0 σ0 _ ([_, _] ++ _))) wn ?_
 rintro _ σ6 ⟨_, ⟨a4, c5, rfl, rfl⟩, H, -⟩
 replace H : Hp _ _ _ [_, _, _] := H
 refine st (v := (B (r1.1 == 0))) (rv_eql (a := r1.1) (b := 0) rfl rfl) (w_end (q_then ?_))
 refine cd_cond (r1.1 == 0) rfl (fun hb7 => ?_) (fun hb7 => ?_)
 ·replace h := bif_t hb7 h
  refine c_seq (rg (st (v := (pt Bt Bu)) (rv_move rfl) (st (v := (pt Bt Bu)) (rv_move rfl) ?_)))
  obtain ⟨r8, hx9, h'⟩ := bind_some h
  clear h
  have h := h'; clear h'
  have hc10 := c_spec_someVector (Bs := Bs) (Bt := Bt) (Bu := Bu) (Bv := Bv) (Bw := Bw) (Bq := a4) (Br := c5) hx9
  refine st_call (cx_call hc10 (ent_f hc10.fn rfl) hn0 (H.sel' [0, 1, 1, 2] rfl rfl : Hp S0 σ0 _ ([_, _] ++ _))) wn ?_
  rintro _ σ15 ⟨_, ⟨a11, c12, a13, c14, rfl, rfl⟩, H, -⟩
  replace H : Hp _ _ _ [_, _, _, _, _] := H
  obtain ⟨σ16, hw17, H, -⟩ := H.pub 0 rfl (Nat.le_refl _)
  rw [← hw17]; clear hw17
  replace H := H.roLow 0 0 rfl (Nat.zero_le _)
  obtain ⟨r18, hx19, h'⟩ := bind_some h
  clear h
  have h := h'; clear h'
  have hc20 := c_spec_reader_spoil (Bs := Bs) (Bt := Bt) (Bu := Bu) (Bv := Bv) (Bw := Bw) (Bq := a13) (Br := c14) (Bm := a11) (Bn := c12) hx19
  refine st_call (cx_call hc20 (ent_f hc20.fn rfl) hn0 (H.sel' [2, 3, 0, 0, 1, 3, 4, 5] rfl rfl : Hp S0 σ0 _ ([_, _, _] ++ _))) wn ?_
  rintro _ σ25 ⟨_, ⟨a21, c22, a23, c24, rfl, rfl⟩, H, -⟩
  replace H : Hp _ _ _ [_, _, _, _, _, _, _, _] := H
  replace H : Hp S0 σ0 σ25 [Ch.own n0 n0 (Sl a21 r18.1 c22) r18.1, Ch.bx Bs Bt Bu [(Sl a23 r18.2.1 c24), (I r18.2.2)] Bv Bw, Ch.ro 0 (Sl a23 r18.2.1 c24) r18.2.1] := H.sel' [0, 1, 2] rfl rfl
  refine st (v := (Sl a21 r18.1 c22)) (rv_assign rfl) (w_end (q_then (c_ret (q_then_r ?_))))
  obtain rfl := Option.some.inj h
  exact fin_ret (v := (Sl a21 r18.1 c22)) (results_ok Try.results46 (res_tmp (v := (Sl a21 r18.1 c22)) rfl res_nil) rfl) ⟨a21, c22, a23, c24, rfl, rfl⟩ (H.sel' [0, 1, 2] rfl rfl)
 ·replace h := bif_f hb7 h
  refine c_skip (q_then (c_seq (rg (st (v := (pt Bt Bu)) (rv_move rfl) ?_))))
  obtain ⟨r26, hx27, h'⟩ := bind_some h
  clear h
  have h := h'; clear h'
  have hc28 := c_spec_someVector (Bs := Bs) (Bt := Bt) (Bu := Bu) (Bv := Bv) (Bw := Bw) (Bq := a4) (Br := c5) hx27
  refine st_call (cx_call hc28 (ent_f hc28.fn rfl) hn0 (H.sel' [0, 1, 1, 2] rfl rfl : Hp S0 σ0 _ ([_, _] ++ _))) wn ?_
  rintro _ σ33 ⟨_, ⟨a29, c30, a31, c32, rfl, rfl⟩, H, -⟩
  replace H : Hp _ _ _ [_, _, _, _, _] := H
  refine st (v := (Sl a29 r26.1 c30)) (rv_assign rfl) (w_end (q_then (c_ret ?_)))
  obtain rfl := Option.some.inj h
  exact fin_ret (v := (Sl a29 r26.1 c30)) (results_ok Try.results46 (res_tmp (v := (Sl a29 r26.1 c30)) rfl res_nil) rfl) ⟨a29, c30, a31, c32, rfl, rfl⟩ (H.sel' [0, 1, 2] rfl rfl)

theorem c_spec_someVectors {Bo : (List UInt8) × Int} {Bp : Int} {Bq : Option Addr} {Br : Nat} {Bs Bt Bu : Nat} {Bv Bw : List Value} {r : (List (List Int)) × ((List UInt8) × Int)} (h : M.spec_someVectors Bo Bp = some r) :
    Cal2 Try.prog 66 [(pt Bt Bu), (I Bp)] [Ch.bx Bs Bt Bu [(Sl Bq Bo.1 Br), (I Bo.2)] Bv Bw, Ch.ro 0 (Sl Bq Bo.1 Br) Bo.1] (fun n0 v L => ∃ (az1 : Option Addr), ∃ (cz2 : Nat), ∃ (az3 : Option Addr), ∃ (cz4 : Nat), v = (Sl az1 r.1 cz2) ∧ L = [Ch.own n0 n0 (Sl az1 r.1 cz2) r.1, Ch.bx Bs Bt Bu [(Sl az3 r.2.1 cz4), (I r.2.2)] Bv Bw, Ch.ro 0 (Sl az3 r.2.1 cz4) r.2.1]) := by
 refine cal2 (n := 19) Try.func66 rfl rfl rfl rfl ?_
 intro S0 σ0 n0 hn0 H
 unfold M.spec_someVectors at h
 refine c_seq (rg (st (v := (.slice none 0 0)) (rv_assign rfl) (w_end (q_then (c_seq (rg ?_))))))
 refine st_ex (ex_buildSlice (el := n0) (xs := ([] : List (List Int))) (ps := []) (cs := []) H hn0 Try.underlying23 ti27 rfl rfl (by kernel_rfl) (.nil) rfl) wn ?_
 rintro _ σ2 ⟨b1, rfl, H, -⟩
 refine st (v := (Sl (some ⟨b1, 0, none⟩) ([] : List (List Int)) 0)) (rv_assign rfl) (w_end (q_then (c_seq (c_seq (rg (st (v := (I 0)) (rv_assign rfl) (w_end (q_then ?_))))))))
 obtain ⟨o3, hj, h'⟩ := bind_some h
 clear h
 refine c_cut (fun e a w => e = .normal ∧ ∃ (ρ : Nat → Value) (σ : St) (aj1 : Option Addr) (cj2 : Nat) (aj3 : Option Addr) (cj4 : Nat), a = fr 19 (updL ρ [(0, (pt Bt Bu)), (5, (Sl aj3 o3.2 cj4))]) ∧ w = σ.w ∧ Hp S0 σ0 σ [Ch.bx Bs Bt Bu [(Sl aj1 o3.1.1 cj2), (I o3.1.2)] Bv Bw, Ch.ro 0 (Sl aj1 o3.1.1 cj2) o3.1.1, Ch.own n0 n0 (Sl aj3 o3.2 cj4) o3.2]) ?_ ?_
 ·clear h'
  rename _ = some o3 => h
  refine c_blk (wp_loopM _ h (fun s4 a w => ∃ (ρ : Nat → Value) (σ : St) (aj1 : Option Addr) (cj2 : Nat) (aj3 : Option Addr) (cj4 : Nat), a = fr 19 (updL ρ [(0, (pt Bt Bu)), (1, (I Bp)), (5, (Sl aj3 s4.2.1 cj4)), (6, (I s4.2.2))]) ∧ w = σ.w ∧ Hp S0 σ0 σ [Ch.bx Bs Bt Bu [(Sl aj1 s4.1.1 cj2), (I s4.1.2)] Bv Bw, Ch.ro 0 (Sl aj1 s4.1.1 cj2) s4.1.1, Ch.own n0 n0 (Sl aj3 s4.2.1 cj4) s4.2.1]) ⟨_, σ2, Bq, Br, (some ⟨b1, 0, none⟩), 0, fr_join ⟨rfl, rfl, rfl, rfl, trivial⟩, rfl, H.sel' [1, 2, 0] rfl rfl⟩ ?_)
  clear h H
  rintro s4 a w o ⟨ρ, σ5, a6, c7, a8, c9, rfl, rfl, H⟩ h hres
  refine c_seq (c_seq (rg (st (v := (I s4.2.2)) (rv_move rfl) (st (v := (I Bp)) (rv_move rfl) (st (v := (B (decide (s4.2.2 < Bp)))) (rv_lss (a := s4.2.2) (b := Bp) rfl rfl) (w_end (q_then ?_)))))))
  refine cd_cond (decide (s4.2.2 < Bp)) rfl (fun hb10 => ?_) (fun hb10 => ?_)
  ·replace h := bif_t hb10 h
   refine c_skip (q_then (c_seq (c_blk (rg (st (v := (Sl a8 s4.2.1 c9)) (rv_move rfl) (st (v := (pt Bt Bu)) (rv_move rfl) ?_))))))
   obtain ⟨r11, hx12, h'⟩ := bind_some h
   clear h
   have h := h'; clear h'
   have hc13 := c_spec_someVector (Bs := Bs) (Bt := Bt) (Bu := Bu) (Bv := Bv) (Bw := Bw) (Bq := a6) (Br := c7) hx12
   refine st_call (cx_call hc13 (ent_f hc13.fn rfl) hn0 (H.sel' [0, 1, 1, 2] rfl rfl : Hp S0 σ0 _ ([_, _] ++ _))) wn ?_
   rintro _ σ18 ⟨_, ⟨a14, c15, a16, c17, rfl, rfl⟩, H, -⟩
   replace H : Hp _ _ _ [_, _, _, _, _] := H
   obtain ⟨σ19, hw20, H, -⟩ := H.pub 0 rfl (Nat.le_refl _)
   rw [← hw20]; clear hw20
   refine st_ex (ex_buildSlice (el := n0) (xs := ([r11.1] : List (List Int))) (ps := [(0, (Sl a14 r11.1 c15))]) (cs := [(Sl a14 r11.1 c15)]) H hn0 Try.underlying23 ti27 rfl rfl (by kernel_rfl) (.cons (c := [(Sl a14 r11.1 c15)]) ⟨_, rfl, (H.ro 0 rfl)⟩ (.nil)) rfl) wn ?_
   rintro _ σ22 ⟨b21, rfl, H, -⟩
   obtain ⟨xs23, hx24, h'⟩ := bind_some h
   clear h
   have h := h'; clear h'
   refine st_ex (ex_append H (i := 5) rfl Try.underlying23 Try.underlying23 ti27 rfl rfl (by decide) (H.own 0 rfl).rd hx24 hn0 rfl rfl) wn ?_
   rintro _ σ27 ⟨a25, c26, rfl, H, -⟩
   refine st (v := (Sl a25 xs23 c26)) (rv_assign rfl) (w_end (q_blk (q_then (rg (st (v := (I s4.2.2)) (rv_move rfl) (st (v := (I (w64 (s4.2.2 + 1)))) (rv_add (a := s4.2.2) (b := 1) rfl rfl) (st (v := (I (w64 (s4.2.2 + 1)))) (rv_assign rfl) (w_end (q_then ?_)))))))))
   obtain rfl := Option.some.inj h
   exact ⟨_, rfl, _, σ27, a16, c17, a25, c26, fr_join ⟨rfl, rfl, rfl, rfl, trivial⟩, rfl, H.sel' [3, 4, 0] rfl rfl⟩
  ·replace h := bif_f hb10 h
   refine c_exit (q_then_x (q_then_x (q_blk_hit ?_)))
   obtain rfl := Option.some.inj h
   obtain rfl := hres _ rfl
   exact ⟨rfl, _, σ5, a6, c7, a8, c9, fr_join ⟨rfl, rfl, trivial⟩, rfl, H.sel' [0, 1, 2] rfl rfl⟩
 ·clear hj
  have h := h'
  clear h' H
  rintro e a w ⟨rfl, ρ, σ28, a29, c30, a31, c32, rfl, rfl, H⟩
  refine q_then (c_seq (rg (st (v := (Sl a31 o3.2 c32)) (rv_move rfl) (st (v := (Sl a31 o3.2 c32)) (rv_assign rfl) (w_end (q_then (c_ret ?_)))))))
  obtain rfl := Option.some.inj h
  exact fin_ret (v := (Sl a31 o3.2 c32)) (results_ok Try.results66 (res_tmp (v := (Sl a31 o3.2 c32)) rfl res_nil) rfl) ⟨a31, c32, a29, c30, rfl, rfl⟩ (H.sel' [2, 0, 1] rfl rfl)

end Go.Vs
