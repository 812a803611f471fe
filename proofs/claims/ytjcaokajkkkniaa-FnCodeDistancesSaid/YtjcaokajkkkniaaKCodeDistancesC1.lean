/- The functions compute what their models say. -/
import Derived.Test.YtjcaokajkkkniaaKCodeDistancesM
import Derived.Test.YtjcaokajkkkniaaCodeDistancesEng1
import Derived.Test.YtjcaokajkkkniaaProg
set_option linter.unusedVariables false
set_option linter.unusedSimpArgs false
set_option maxRecDepth 20000
namespace Go.Vs
open Go Go.Proofs
attribute [local irreducible] Code.wp Code.wpIn wpList wpListIn wpQuiet Calls CallsIn

theorem ti3 : TI Try.prog 3 (.int .i64 0) 1 8 := TI.mk' (by kernel_rfl)
theorem ti5 : TI Try.prog 5 (.int .u8 0) 1 1 := TI.mk' (by kernel_rfl)
theorem ti22 : TI Try.prog 22 (.slice none 0 0) 1 24 := TI.mk' (by kernel_rfl)
theorem ti23 : TI Try.prog 23 (.slice none 0 0) 1 24 := TI.mk' (by kernel_rfl)
theorem ti25 : TI Try.prog 25 (.agg #[(.slice none 0 0), (.slice none 0 0)]) 2 48 := TI.mk' (by kernel_rfl)
theorem ti29 : TI Try.prog 29 (.slice none 0 0) 1 24 := TI.mk' (by kernel_rfl)
theorem ti55 : TI Try.prog 55 (.agg #[(.int .i64 0), (.int .i64 0), (.int .i64 0), (.int .i64 0)]) 4 32 := TI.mk' (by kernel_rfl)
theorem ti60 : TI Try.prog 60 (.agg #[(.int .i64 0), (.int .i64 0), (.int .i64 0), (.int .i64 0)]) 4 32 := TI.mk' (by kernel_rfl)
theorem ti72 : TI Try.prog 72 (.agg #[(.slice none 0 0), (.int .i64 0)]) 2 32 := TI.mk' (by kernel_rfl)
theorem bp25 {fs : Array Field} (hT : Try.prog.underlying 25 = some (.struct fs)) (w : World) : (fs.mapM (fun f => do pure (f.offset, ← sizeOf f.type)) : Sem (Array (Nat × Nat))).run Try.prog w = .ok #[(0, 1), (1, 1)] w := by
  rw [Try.underlying25] at hT; cases hT
  simp [run_typeInfo ti23]
theorem bp72 {fs : Array Field} (hT : Try.prog.underlying 72 = some (.struct fs)) (w : World) : (fs.mapM (fun f => do pure (f.offset, ← sizeOf f.type)) : Sem (Array (Nat × Nat))).run Try.prog w = .ok #[(0, 1), (1, 1)] w := by
  rw [Try.underlying72] at hT; cases hT
  simp [run_typeInfo ti22, run_typeInfo ti3]

theorem c_impl_validCoords {coords_0 : List Int} {acoords_0 : Option Addr} {ccoords_0 : Nat} {r : Bool} (h : M.impl_validCoords coords_0 = some r) :
    Cal2 Try.prog 53 [(Sl acoords_0 coords_0 ccoords_0)] [Ch.ro 0 (Sl acoords_0 coords_0 ccoords_0) coords_0] (fun n0 v L => v = (B r) ∧ L = []) := by
 refine cal2 (n := 18) Try.func53 rfl rfl rfl rfl ?_
 intro S0 σ0 n0 hn0 H
 unfold M.impl_validCoords at h
 refine c_seq ?_
 refine rg ?_
 refine st (v := (B false)) (rv_assign rfl) ?_
 refine w_end ?_
 refine q_then ?_
 refine c_seq ?_
 refine c_seq ?_
 refine rg ?_
 refine st (v := (Sl acoords_0 coords_0 ccoords_0)) (rv_move rfl) ?_
 refine st (v := (I (coords_0.length : Int))) (rv_len Try.underlying29 rfl) ?_
 refine st (v := (I 0)) (rv_move rfl) ?_
 refine w_end ?_
 refine q_then ?_
 obtain ⟨o1, hj, h'⟩ := bind_some h
 clear h
 refine c_cut (fun e a w => (∃ t, o1 = (.inl t) ∧ e = .normal ∧ ∃ (ρ : Nat → Value) (σ : St), a = fr 18 (updL ρ []) ∧ w = σ.w ∧ Hp S0 σ0 σ []) ∨ (∃ t, o1 = (.inr t) ∧ e = .ret ∧ ∃ (ρ : Nat → Value) (σ : St), a = fr 18 (updL ρ [(2, (B t))]) ∧ w = σ.w ∧ Hp S0 σ0 σ [])) ?_ ?_
 ·clear h'
  rename _ = some o1 => h
  refine c_blk ?_
  refine wp_loopM _ h (fun s2 a w => ∃ (ρ : Nat → Value) (σ : St), a = fr 18 (updL ρ [(5, (Sl acoords_0 coords_0 ccoords_0)), (6, (I (coords_0.length : Int))), (7, (I s2))]) ∧ w = σ.w ∧ Hp S0 σ0 σ [Ch.ro 0 (Sl acoords_0 coords_0 ccoords_0) coords_0]) ⟨_, σ0, fr_join ⟨rfl, rfl, rfl, trivial⟩, rfl, H.sel' [0] rfl rfl⟩ ?_
  clear h H
  rintro s2 a w o ⟨ρ, σ3, rfl, rfl, H⟩ h hres
  refine c_seq ?_
  refine rg ?_
  refine st (v := (B (decide (s2 < (coords_0.length : Int))))) (rv_lss (a := s2) (b := (coords_0.length : Int)) rfl rfl) ?_
  refine w_end ?_
  refine q_then ?_
  refine c_seq ?_
  refine cd_cond (decide (s2 < (coords_0.length : Int))) rfl (fun hb4 => ?_) (fun hb4 => ?_)
  ·replace h := bif_t hb4 h
   refine c_skip ?_
   refine q_then ?_
   refine c_seq ?_
   refine c_blk ?_
   refine c_seq ?_
   refine rg ?_
   obtain ⟨x5, hx6, h'⟩ := bind_some h
   clear h
   have h := h'; clear h'
   obtain ⟨b8, o9, hi7, -⟩ := (H.ro 0 rfl).ix hx6
   refine st (v := (pt b8 o9)) (rv_ix Try.underlying29 ti3 rfl rfl hi7) ?_
   have hc10 := ((H.ro 0 rfl).at hx6 hi7).int
   refine st (v := (I x5)) (rv_load1 Try.underlying3 rfl rfl hc10) ?_
   refine st (v := (I x5)) (rv_assign rfl) ?_
   refine w_end ?_
   refine q_then ?_
   refine c_seq ?_
   obtain ⟨o11, hj, h'⟩ := bind_some h
   clear h
   refine c_cut (fun e a w => e = .normal ∧ ∃ (ρ : Nat → Value) (σ : St), a = fr 18 (updL ρ [(5, (Sl acoords_0 coords_0 ccoords_0)), (6, (I (coords_0.length : Int))), (7, (I s2)), (16, (B o11))]) ∧ w = σ.w ∧ Hp S0 σ0 σ [Ch.ro 0 (Sl acoords_0 coords_0 ccoords_0) coords_0]) ?_ ?_
   ·clear h'
    rename _ = some o11 => h
    refine rg ?_
    refine st (v := (I x5)) (rv_move rfl) ?_
    refine st (v := (B (decide (x5 < (-100))))) (rv_lss (a := x5) (b := (-100)) rfl rfl) ?_
    refine st (v := (B (decide (x5 < (-100))))) (rv_move rfl) ?_
    rcases Bool.eq_false_or_eq_true (decide (x5 < (-100))) with hb12 | hb12
    ·replace h := bif_t hb12 h
     refine st_skip (congrArg some hb12) ?_
     refine st_skip (congrArg some hb12) ?_
     refine st (v := (B true)) (rv_pick_t (congrArg B hb12) rfl) ?_
     refine w_end ?_
     obtain rfl := Option.some.inj h
     exact ⟨rfl, _, σ3, fr_join ⟨rfl, rfl, rfl, rfl, trivial⟩, rfl, H.sel' [0] rfl rfl⟩
    ·replace h := bif_f hb12 h
     refine st_g (v := (I x5)) (congrArg some hb12) (rv_move rfl) ?_
     refine st_g (v := (B (decide (100 < x5)))) (congrArg some hb12) (rv_gtr (a := x5) (b := 100) rfl rfl) ?_
     refine st (v := (B (decide (100 < x5)))) (rv_pick_f (congrArg B hb12) rfl) ?_
     refine w_end ?_
     obtain rfl := Option.some.inj h
     exact ⟨rfl, _, σ3, fr_join ⟨rfl, rfl, rfl, rfl, trivial⟩, rfl, H.sel' [0] rfl rfl⟩
   ·clear hj
    have h := h'
    clear h' H
    rintro e a w ⟨rfl, ρ, σ13, rfl, rfl, H⟩
    refine q_then ?_
    refine cd_cond o11 rfl (fun hb14 => ?_) (fun hb14 => ?_)
    ·replace h := bif_t hb14 h
     refine c_seq ?_
     refine rg ?_
     refine st (v := (B false)) (rv_assign rfl) ?_
     refine w_end ?_
     refine q_then ?_
     refine c_ret ?_
     refine q_blk_r ?_
     refine q_then_r ?_
     refine q_then_r ?_
     refine q_blk_r ?_
     obtain rfl := Option.some.inj h
     obtain rfl := hres _ rfl
     exact .inr (⟨_, rfl, rfl, _, σ13, fr_join ⟨rfl, trivial⟩, rfl, H.sel' [] rfl rfl⟩)
    ·replace h := bif_f hb14 h
     refine c_skip ?_
     refine q_blk ?_
     refine q_then ?_
     refine rg ?_
     refine st (v := (I (w64 (s2 + 1)))) (rv_add (a := s2) (b := 1) rfl rfl) ?_
     refine st (v := (I (w64 (s2 + 1)))) (rv_move rfl) ?_
     refine w_end ?_
     refine q_then ?_
     obtain rfl := Option.some.inj h
     exact ⟨_, rfl, _, σ13, fr_join ⟨rfl, rfl, rfl, trivial⟩, rfl, H.sel' [0] rfl rfl⟩
  ·replace h := bif_f hb4 h
   refine c_exit ?_
   refine q_then_x ?_
   refine q_then_x ?_
   refine q_blk_hit ?_
   obtain rfl := Option.some.inj h
   obtain rfl := hres _ rfl
   exact .inl ⟨_, rfl, rfl, _, σ3, fr_join trivial, rfl, H.sel' [] rfl rfl⟩
 ·clear hj
  have h := h'
  clear h' H
  rintro e a w (⟨t15, rfl, rfl, ρ, σ16, rfl, rfl, H⟩ | ⟨t17, rfl, rfl, ρ, σ18, rfl, rfl, H⟩)
  ·replace h := selim_l h
   refine q_then ?_
   refine c_seq ?_
   refine rg ?_
   refine st (v := (B true)) (rv_assign rfl) ?_
   refine w_end ?_
   refine q_then ?_
   refine c_ret ?_
   obtain rfl := Option.some.inj h
   exact fin_ret (v := (B true)) (results_ok Try.results53 (res_tmp (v := (B true)) rfl res_nil) rfl) ⟨rfl, rfl⟩ (H.sel' [] rfl rfl)
  ·replace h := selim_r h
   refine q_then_r ?_
   obtain rfl := Option.some.inj h
   exact fin_ret (v := (B t17)) (results_ok Try.results53 (res_tmp (v := (B t17)) rfl res_nil) rfl) ⟨rfl, rfl⟩ (H.sel' [] rfl rfl)

theorem c_impl_validSide {side_0 : List (List Int)} {aside_0 : Option Addr} {cside_0 : Nat} {r : Bool} (h : M.impl_validSide side_0 = some r) :
    Cal2 Try.prog 40 [(Sl aside_0 side_0 cside_0)] [Ch.ro 0 (Sl aside_0 side_0 cside_0) side_0] (fun n0 v L => v = (B r) ∧ L = []) := by
 refine cal2 (n := 23) Try.func40 rfl rfl rfl rfl ?_
 intro S0 σ0 n0 hn0 H
 unfold M.impl_validSide at h
 refine c_seq ?_
 refine rg ?_
 refine st (v := (B false)) (rv_assign rfl) ?_
 refine w_end ?_
 refine q_then ?_
 refine c_seq ?_
 refine c_seq ?_
 refine rg ?_
 refine st (v := (Sl aside_0 side_0 cside_0)) (rv_move rfl) ?_
 refine st (v := (I (side_0.length : Int))) (rv_len Try.underlying23 rfl) ?_
 refine st (v := (B ((side_0.length : Int) != 4))) (rv_neq (a := (side_0.length : Int)) (b := 4) rfl rfl) ?_
 refine w_end ?_
 refine q_then ?_
 refine cd_cond ((side_0.length : Int) != 4) rfl (fun hb1 => ?_) (fun hb1 => ?_)
 ·replace h := bif_t hb1 h
  refine c_seq ?_
  refine rg ?_
  refine st (v := (B false)) (rv_assign rfl) ?_
  refine w_end ?_
  refine q_then ?_
  refine c_ret ?_
  refine q_then_r ?_
  obtain rfl := Option.some.inj h
  exact fin_ret (v := (B false)) (results_ok Try.results40 (res_tmp (v := (B false)) rfl res_nil) rfl) ⟨rfl, rfl⟩ (H.sel' [] rfl rfl)
 ·replace h := bif_f hb1 h
  refine c_skip ?_
  refine q_then ?_
  refine c_seq ?_
  refine c_seq ?_
  refine rg ?_
  refine st (v := (Sl aside_0 side_0 cside_0)) (rv_move rfl) ?_
  refine st (v := (I (side_0.length : Int))) (rv_len Try.underlying23 rfl) ?_
  refine st (v := (I 0)) (rv_move rfl) ?_
  refine w_end ?_
  refine q_then ?_
  obtain ⟨o2, hj, h'⟩ := bind_some h
  clear h
  refine c_cut (fun e a w => (∃ t, o2 = (.inl t) ∧ e = .normal ∧ ∃ (ρ : Nat → Value) (σ : St), a = fr 23 (updL ρ []) ∧ w = σ.w ∧ Hp S0 σ0 σ []) ∨ (∃ t, o2 = (.inr t) ∧ e = .ret ∧ ∃ (ρ : Nat → Value) (σ : St), a = fr 23 (updL ρ [(2, (B t))]) ∧ w = σ.w ∧ Hp S0 σ0 σ [])) ?_ ?_
  ·clear h'
   rename _ = some o2 => h
   refine c_blk ?_
   refine wp_loopM _ h (fun s3 a w => ∃ (ρ : Nat → Value) (σ : St), a = fr 23 (updL ρ [(8, (Sl aside_0 side_0 cside_0)), (9, (I (side_0.length : Int))), (10, (I s3))]) ∧ w = σ.w ∧ Hp S0 σ0 σ [Ch.ro 0 (Sl aside_0 side_0 cside_0) side_0]) ⟨_, σ0, fr_join ⟨rfl, rfl, rfl, trivial⟩, rfl, H.sel' [0] rfl rfl⟩ ?_
   clear h H
   rintro s3 a w o ⟨ρ, σ4, rfl, rfl, H⟩ h hres
   refine c_seq ?_
   refine rg ?_
   refine st (v := (B (decide (s3 < (side_0.length : Int))))) (rv_lss (a := s3) (b := (side_0.length : Int)) rfl rfl) ?_
   refine w_end ?_
   refine q_then ?_
   refine c_seq ?_
   refine cd_cond (decide (s3 < (side_0.length : Int))) rfl (fun hb5 => ?_) (fun hb5 => ?_)
   ·replace h := bif_t hb5 h
    refine c_skip ?_
    refine q_then ?_
    refine c_seq ?_
    refine c_blk ?_
    refine c_seq ?_
    refine rg ?_
    obtain ⟨x6, hx7, h'⟩ := bind_some h
    clear h
    have h := h'; clear h'
    obtain ⟨b9, o10, hi8, -⟩ := (H.ro 0 rfl).ix hx7
    refine st (v := (pt b9 o10)) (rv_ix Try.underlying23 ti29 rfl rfl hi8) ?_
    obtain ⟨v14, hc15, hR13⟩ := ((H.ro 0 rfl).at hx7 hi8).slice
    obtain ⟨a11, c12, rfl⟩ := hR13.isSl
    replace H := H.add (d := Ch.ro 0 (Sl a11 x6 c12) x6) hR13 (fun _ h => h)
    clear hR13
    refine st (v := (Sl a11 x6 c12)) (rv_load1 Try.underlying29 rfl rfl hc15) ?_
    refine st (v := (Sl a11 x6 c12)) (rv_assign rfl) ?_
    refine w_end ?_
    refine q_then ?_
    refine c_seq ?_
    obtain ⟨o16, hj, h'⟩ := bind_some h
    clear h
    refine c_cut (fun e a w => e = .normal ∧ ∃ (ρ : Nat → Value) (σ : St), a = fr 23 (updL ρ [(8, (Sl aside_0 side_0 cside_0)), (9, (I (side_0.length : Int))), (10, (I s3)), (21, (B o16))]) ∧ w = σ.w ∧ Hp S0 σ0 σ [Ch.ro 0 (Sl aside_0 side_0 cside_0) side_0]) ?_ ?_
    ·clear h'
     rename _ = some o16 => h
     refine rg ?_
     refine st (v := (Sl a11 x6 c12)) (rv_move rfl) ?_
     refine st (v := (I (x6.length : Int))) (rv_len Try.underlying29 rfl) ?_
     refine st (v := (B ((x6.length : Int) != 2))) (rv_neq (a := (x6.length : Int)) (b := 2) rfl rfl) ?_
     refine st (v := (B ((x6.length : Int) != 2))) (rv_move rfl) ?_
     rcases Bool.eq_false_or_eq_true ((x6.length : Int) != 2) with hb17 | hb17
     ·replace h := bif_t hb17 h
      refine st_skip (congrArg some hb17) ?_
      refine st_skip (congrArg some hb17) ?_
      refine st_skip (congrArg some hb17) ?_
      refine st (v := (B true)) (rv_pick_t (congrArg B hb17) rfl) ?_
      refine w_end ?_
      obtain rfl := Option.some.inj h
      exact ⟨rfl, _, σ4, fr_join ⟨rfl, rfl, rfl, rfl, trivial⟩, rfl, H.sel' [1] rfl rfl⟩
     ·replace h := bif_f hb17 h
      refine st_g (v := (Sl a11 x6 c12)) (congrArg some hb17) (rv_move rfl) ?_
      obtain ⟨r18, hx19, h'⟩ := bind_some h
      clear h
      have h := h'; clear h'
      have hc20 := c_impl_validCoords (acoords_0 := a11) (ccoords_0 := c12) hx19
      refine st_call (cx_call hc20 (ent_f hc20.fn rfl) hn0 (show Hp S0 σ0 _ ([Ch.ro 0 (Sl a11 x6 c12) x6] ++ [Ch.ro 0 (Sl a11 x6 c12) x6, Ch.ro 0 (Sl aside_0 side_0 cside_0) side_0]) from (H.sel' [0, 0, 1] rfl rfl))) (wanted_yes rfl (by exact (congrArg some hb17))) ?_
      rintro _ σ21 ⟨_, ⟨rfl, rfl⟩, H, -⟩
      replace H : Hp S0 σ0 σ21 [Ch.ro 0 (Sl a11 x6 c12) x6, Ch.ro 0 (Sl aside_0 side_0 cside_0) side_0] := H
      refine st_g (v := (B (!r18))) (congrArg some hb17) (rv_not rfl) ?_
      refine st (v := (B (!r18))) (rv_pick_f (congrArg B hb17) rfl) ?_
      refine w_end ?_
      obtain rfl := Option.some.inj h
      exact ⟨rfl, _, σ21, fr_join ⟨rfl, rfl, rfl, rfl, trivial⟩, rfl, H.sel' [1] rfl rfl⟩
    ·clear hj
     have h := h'
     clear h' H
     rintro e a w ⟨rfl, ρ, σ22, rfl, rfl, H⟩
     refine q_then ?_
     refine cd_cond o16 rfl (fun hb23 => ?_) (fun hb23 => ?_)
     ·replace h := bif_t hb23 h
      refine c_seq ?_
      refine rg ?_
      refine st (v := (B false)) (rv_assign rfl) ?_
      refine w_end ?_
      refine q_then ?_
      refine c_ret ?_
      refine q_blk_r ?_
      refine q_then_r ?_
      refine q_then_r ?_
      refine q_blk_r ?_
      obtain rfl := Option.some.inj h
      obtain rfl := hres _ rfl
      exact .inr (⟨_, rfl, rfl, _, σ22, fr_join ⟨rfl, trivial⟩, rfl, H.sel' [] rfl rfl⟩)
     ·replace h := bif_f hb23 h
      refine c_skip ?_
      refine q_blk ?_
      refine q_then ?_
      refine rg ?_
      refine st (v := (I (w64 (s3 + 1)))) (rv_add (a := s3) (b := 1) rfl rfl) ?_
      refine st (v := (I (w64 (s3 + 1)))) (rv_move rfl) ?_
      refine w_end ?_
      refine q_then ?_
      obtain rfl := Option.some.inj h
      exact ⟨_, rfl, _, σ22, fr_join ⟨rfl, rfl, rfl, trivial⟩, rfl, H.sel' [0] rfl rfl⟩
   ·replace h := bif_f hb5 h
    refine c_exit ?_
    refine q_then_x ?_
    refine q_then_x ?_
    refine q_blk_hit ?_
    obtain rfl := Option.some.inj h
    obtain rfl := hres _ rfl
    exact .inl ⟨_, rfl, rfl, _, σ4, fr_join trivial, rfl, H.sel' [] rfl rfl⟩
  ·clear hj
   have h := h'
   clear h' H
   rintro e a w (⟨t24, rfl, rfl, ρ, σ25, rfl, rfl, H⟩ | ⟨t26, rfl, rfl, ρ, σ27, rfl, rfl, H⟩)
   ·replace h := selim_l h
    refine q_then ?_
    refine c_seq ?_
    refine rg ?_
    refine st (v := (B true)) (rv_assign rfl) ?_
    refine w_end ?_
    refine q_then ?_
    refine c_ret ?_
    obtain rfl := Option.some.inj h
    exact fin_ret (v := (B true)) (results_ok Try.results40 (res_tmp (v := (B true)) rfl res_nil) rfl) ⟨rfl, rfl⟩ (H.sel' [] rfl rfl)
   ·replace h := selim_r h
    refine q_then_r ?_
    obtain rfl := Option.some.inj h
    exact fin_ret (v := (B t26)) (results_ok Try.results40 (res_tmp (v := (B t26)) rfl res_nil) rfl) ⟨rfl, rfl⟩ (H.sel' [] rfl rfl)

theorem c_impl_ValidBook {b_0 : (List (List Int)) × (List (List Int))} {ab_0_0 : Option Addr} {cb_0_0 : Nat} {ab_0_1 : Option Addr} {cb_0_1 : Nat} {r : Bool} (h : M.impl_ValidBook b_0 = some r) :
    Cal2 Try.prog 14 [(.agg #[(Sl ab_0_0 b_0.1 cb_0_0), (Sl ab_0_1 b_0.2 cb_0_1)])] [Ch.ro 0 (Sl ab_0_0 b_0.1 cb_0_0) b_0.1, Ch.ro 0 (Sl ab_0_1 b_0.2 cb_0_1) b_0.2] (fun n0 v L => v = (B r) ∧ L = []) := by
 refine cal2 (n := 11) Try.func14 rfl rfl rfl rfl ?_
 intro S0 σ0 n0 hn0 H
 unfold M.impl_ValidBook at h
 refine c_seq ?_
 refine rg ?_
 refine st_ex (ex_box (cs := [(Sl ab_0_0 b_0.1 cb_0_0), (Sl ab_0_1 b_0.2 cb_0_1)]) H hn0 rfl rfl) wn ?_
 rintro _ σ2 ⟨b1, rfl, H, -⟩
 refine st (v := (B false)) (rv_assign rfl) ?_
 refine w_end ?_
 refine q_then ?_
 refine c_seq ?_
 refine rg ?_
 refine st (v := (pt b1 0)) (rv_fieldAddr (off := 0) (ft := 23) Try.underlying25 rfl ti23 rfl rfl) ?_
 have hc3 := H.cell (u := (Sl ab_0_0 b_0.1 cb_0_0)) (o' := 0) 0 0 rfl rfl rfl
 refine st (v := (Sl ab_0_0 b_0.1 cb_0_0)) (rv_load1 Try.underlying23 rfl rfl hc3) ?_
 obtain ⟨r4, hx5, h'⟩ := bind_some h
 clear h
 have h := h'; clear h'
 have hc6 := c_impl_validSide (aside_0 := ab_0_0) (cside_0 := cb_0_0) hx5
 refine st_call (cx_call hc6 (ent_f hc6.fn rfl) hn0 (show Hp S0 σ0 _ ([Ch.ro 0 (Sl ab_0_0 b_0.1 cb_0_0) b_0.1] ++ [Ch.bx n0 b1 0 [(Sl ab_0_0 b_0.1 cb_0_0), (Sl ab_0_1 b_0.2 cb_0_1)] [] [], Ch.ro 0 (Sl ab_0_0 b_0.1 cb_0_0) b_0.1, Ch.ro 0 (Sl ab_0_1 b_0.2 cb_0_1) b_0.2]) from (H.sel' [1, 0, 1, 2] rfl rfl))) wn ?_
 rintro _ σ7 ⟨_, ⟨rfl, rfl⟩, H, -⟩
 replace H : Hp S0 σ0 σ7 [Ch.bx n0 b1 0 [(Sl ab_0_0 b_0.1 cb_0_0), (Sl ab_0_1 b_0.2 cb_0_1)] [] [], Ch.ro 0 (Sl ab_0_0 b_0.1 cb_0_0) b_0.1, Ch.ro 0 (Sl ab_0_1 b_0.2 cb_0_1) b_0.2] := H
 refine st (v := (B r4)) (rv_move rfl) ?_
 rcases Bool.eq_false_or_eq_true r4 with hb8 | hb8
 ·replace h := bif_t hb8 h
  refine st_g (v := (pt b1 1)) (congrArg some hb8) (rv_fieldAddr (off := 1) (ft := 23) Try.underlying25 rfl ti23 rfl rfl) ?_
  have hc9 := H.cell (u := (Sl ab_0_1 b_0.2 cb_0_1)) (o' := 1) 0 1 rfl rfl rfl
  refine st_g (v := (Sl ab_0_1 b_0.2 cb_0_1)) (congrArg some hb8) (rv_load1 Try.underlying23 rfl rfl hc9) ?_
  obtain ⟨r10, hx11, h'⟩ := bind_some h
  clear h
  have h := h'; clear h'
  have hc12 := c_impl_validSide (aside_0 := ab_0_1) (cside_0 := cb_0_1) hx11
  refine st_call (cx_call hc12 (ent_f hc12.fn rfl) hn0 (show Hp S0 σ0 _ ([Ch.ro 0 (Sl ab_0_1 b_0.2 cb_0_1) b_0.2] ++ [Ch.bx n0 b1 0 [(Sl ab_0_0 b_0.1 cb_0_0), (Sl ab_0_1 b_0.2 cb_0_1)] [] [], Ch.ro 0 (Sl ab_0_0 b_0.1 cb_0_0) b_0.1, Ch.ro 0 (Sl ab_0_1 b_0.2 cb_0_1) b_0.2]) from (H.sel' [2, 0, 1, 2] rfl rfl))) (wanted_yes rfl (by exact (congrArg some hb8))) ?_
  rintro _ σ13 ⟨_, ⟨rfl, rfl⟩, H, -⟩
  replace H : Hp S0 σ0 σ13 [Ch.bx n0 b1 0 [(Sl ab_0_0 b_0.1 cb_0_0), (Sl ab_0_1 b_0.2 cb_0_1)] [] [], Ch.ro 0 (Sl ab_0_0 b_0.1 cb_0_0) b_0.1, Ch.ro 0 (Sl ab_0_1 b_0.2 cb_0_1) b_0.2] := H
  refine st (v := (B r10)) (rv_pick_t (congrArg B hb8) rfl) ?_
  refine st (v := (B r10)) (rv_assign rfl) ?_
  refine w_end ?_
  refine q_then ?_
  refine c_ret ?_
  obtain rfl := Option.some.inj h
  exact fin_ret (v := (B r10)) (results_ok Try.results14 (res_tmp (v := (B r10)) rfl res_nil) rfl) ⟨rfl, rfl⟩ (H.sel' [] rfl rfl)
 ·replace h := bif_f hb8 h
  refine st_skip (congrArg some hb8) ?_
  refine st_skip (congrArg some hb8) ?_
  refine st_skip (congrArg some hb8) ?_
  refine st (v := (B false)) (rv_pick_f (congrArg B hb8) rfl) ?_
  refine st (v := (B false)) (rv_assign rfl) ?_
  refine w_end ?_
  refine q_then ?_
  refine c_ret ?_
  obtain rfl := Option.some.inj h
  exact fin_ret (v := (B false)) (results_ok Try.results14 (res_tmp (v := (B false)) rfl res_nil) rfl) ⟨rfl, rfl⟩ (H.sel' [] rfl rfl)

theorem c_impl_ValidVector {v_0 : List Int} {av_0 : Option Addr} {cv_0 : Nat} {r : Bool} (h : M.impl_ValidVector v_0 = some r) :
    Cal2 Try.prog 24 [(Sl av_0 v_0 cv_0)] [Ch.ro 0 (Sl av_0 v_0 cv_0) v_0] (fun n0 v L => v = (B r) ∧ L = []) := by
 refine cal2 (n := 10) Try.func24 rfl rfl rfl rfl ?_
 intro S0 σ0 n0 hn0 H
 unfold M.impl_ValidVector at h
 refine c_seq ?_
 refine rg ?_
 refine st (v := (B false)) (rv_assign rfl) ?_
 refine w_end ?_
 refine q_then ?_
 refine c_seq ?_
 refine rg ?_
 refine st (v := (Sl av_0 v_0 cv_0)) (rv_move rfl) ?_
 refine st (v := (I (v_0.length : Int))) (rv_len Try.underlying29 rfl) ?_
 refine st (v := (B ((v_0.length : Int) == 4))) (rv_eql (a := (v_0.length : Int)) (b := 4) rfl rfl) ?_
 refine st (v := (B ((v_0.length : Int) == 4))) (rv_move rfl) ?_
 rcases Bool.eq_false_or_eq_true ((v_0.length : Int) == 4) with hb1 | hb1
 ·replace h := bif_t hb1 h
  refine st_g (v := (Sl av_0 v_0 cv_0)) (congrArg some hb1) (rv_move rfl) ?_
  obtain ⟨r2, hx3, h'⟩ := bind_some h
  clear h
  have h := h'; clear h'
  have hc4 := c_impl_validCoords (acoords_0 := av_0) (ccoords_0 := cv_0) hx3
  refine st_call (cx_call hc4 (ent_f hc4.fn rfl) hn0 (show Hp S0 σ0 _ ([Ch.ro 0 (Sl av_0 v_0 cv_0) v_0] ++ [Ch.ro 0 (Sl av_0 v_0 cv_0) v_0]) from (H.sel' [0, 0] rfl rfl))) (wanted_yes rfl (by exact (congrArg some hb1))) ?_
  rintro _ σ5 ⟨_, ⟨rfl, rfl⟩, H, -⟩
  replace H : Hp S0 σ0 σ5 [Ch.ro 0 (Sl av_0 v_0 cv_0) v_0] := H
  refine st (v := (B r2)) (rv_pick_t (congrArg B hb1) rfl) ?_
  refine st (v := (B r2)) (rv_assign rfl) ?_
  refine w_end ?_
  refine q_then ?_
  refine c_ret ?_
  obtain rfl := Option.some.inj h
  exact fin_ret (v := (B r2)) (results_ok Try.results24 (res_tmp (v := (B r2)) rfl res_nil) rfl) ⟨rfl, rfl⟩ (H.sel' [] rfl rfl)
 ·replace h := bif_f hb1 h
  refine st_skip (congrArg some hb1) ?_
  refine st_skip (congrArg some hb1) ?_
  refine st (v := (B false)) (rv_pick_f (congrArg B hb1) rfl) ?_
  refine st (v := (B false)) (rv_assign rfl) ?_
  refine w_end ?_
  refine q_then ?_
  refine c_ret ?_
  obtain rfl := Option.some.inj h
  exact fin_ret (v := (B false)) (results_ok Try.results24 (res_tmp (v := (B false)) rfl res_nil) rfl) ⟨rfl, rfl⟩ (H.sel' [] rfl rfl)

theorem c_impl_tableOf {side_0 : List (List Int)} {half_1 : List Int} {aside_0 : Option Addr} {cside_0 : Nat} {ahalf_1 : Option Addr} {chalf_1 : Nat} {r : (List Int)} (h : M.impl_tableOf side_0 half_1 = some r) :
    Cal2 Try.prog 66 [(Sl aside_0 side_0 cside_0), (Sl ahalf_1 half_1 chalf_1)] [Ch.ro 0 (Sl aside_0 side_0 cside_0) side_0, Ch.ro 0 (Sl ahalf_1 half_1 chalf_1) half_1] (fun n0 v L => v = (.agg (List.map I r).toArray) ∧ L = [] ∧ r.length = 4) := by
 refine cal2 (n := 45) Try.func66 rfl rfl rfl rfl ?_
 intro S0 σ0 n0 hn0 H
 unfold M.impl_tableOf at h
 refine c_seq ?_
 refine rg ?_
 refine st_ex (ex_alloc (cs := (List.map I (List.replicate 4 0))) H hn0 ti55 rfl) wn ?_
 rintro _ σ2 ⟨b1, rfl, H, -⟩
 refine w_end ?_
 refine q_then ?_
 refine c_seq ?_
 refine rg ?_
 refine st_ex (ex_alloc (cs := (List.map I (List.replicate 4 0))) H hn0 ti55 rfl) wn ?_
 rintro _ σ4 ⟨b3, rfl, H, -⟩
 refine w_end ?_
 refine q_then ?_
 refine c_seq ?_
 refine c_seq ?_
 refine rg ?_
 refine st (v := (Sl aside_0 side_0 cside_0)) (rv_move rfl) ?_
 refine st (v := (I (side_0.length : Int))) (rv_len Try.underlying23 rfl) ?_
 refine st (v := (I 0)) (rv_move rfl) ?_
 refine w_end ?_
 refine q_then ?_
 obtain ⟨o5, hj, h'⟩ := bind_some h
 clear h
 refine c_cut (fun e a w => e = .normal ∧ ∃ (ρ : Nat → Value) (σ : St), a = fr 45 (updL ρ [(4, (pt b1 0)), (5, (pt b3 0))]) ∧ w = σ.w ∧ Hp S0 σ0 σ [Ch.bx n0 b3 0 (List.map I o5) [] [], Ch.bx n0 b1 0 (List.map I (List.replicate 4 0)) [] []] ∧ o5.length = 4) ?_ ?_
 ·clear h'
  rename _ = some o5 => h
  refine c_blk ?_
  refine wp_loopM _ h (fun s6 a w => ∃ (ρ : Nat → Value) (σ : St), a = fr 45 (updL ρ [(1, (Sl ahalf_1 half_1 chalf_1)), (4, (pt b1 0)), (5, (pt b3 0)), (10, (Sl aside_0 side_0 cside_0)), (11, (I (side_0.length : Int))), (12, (I s6.2))]) ∧ w = σ.w ∧ Hp S0 σ0 σ [Ch.bx n0 b3 0 (List.map I s6.1) [] [], Ch.ro 0 (Sl ahalf_1 half_1 chalf_1) half_1, Ch.bx n0 b1 0 (List.map I (List.replicate 4 0)) [] [], Ch.ro 0 (Sl aside_0 side_0 cside_0) side_0] ∧ s6.1.length = 4) ⟨_, σ4, fr_join ⟨rfl, rfl, rfl, rfl, rfl, rfl, trivial⟩, rfl, H.sel' [0, 3, 1, 2] rfl rfl, rfl⟩ ?_
  clear h H
  rintro s6 a w o ⟨ρ, σ7, rfl, rfl, H, hl8⟩ h hres
  refine c_seq ?_
  refine rg ?_
  refine st (v := (B (decide (s6.2 < (side_0.length : Int))))) (rv_lss (a := s6.2) (b := (side_0.length : Int)) rfl rfl) ?_
  refine w_end ?_
  refine q_then ?_
  refine c_seq ?_
  refine cd_cond (decide (s6.2 < (side_0.length : Int))) rfl (fun hb9 => ?_) (fun hb9 => ?_)
  ·replace h := bif_t hb9 h
   refine c_skip ?_
   refine q_then ?_
   refine c_seq ?_
   refine c_blk ?_
   refine c_seq ?_
   refine rg ?_
   refine st (v := (I s6.2)) (rv_move rfl) ?_
   obtain ⟨x10, hx11, h'⟩ := bind_some h
   clear h
   have h := h'; clear h'
   obtain ⟨b13, o14, hi12, -⟩ := (H.ro 3 rfl).ix hx11
   refine st (v := (pt b13 o14)) (rv_ix Try.underlying23 ti29 rfl rfl hi12) ?_
   obtain ⟨v18, hc19, hR17⟩ := ((H.ro 3 rfl).at hx11 hi12).slice
   obtain ⟨a15, c16, rfl⟩ := hR17.isSl
   replace H := H.add (d := Ch.ro 0 (Sl a15 x10 c16) x10) hR17 (fun _ h => h)
   clear hR17
   refine st (v := (Sl a15 x10 c16)) (rv_load1 Try.underlying29 rfl rfl hc19) ?_
   refine st (v := (I s6.2)) (rv_assign rfl) ?_
   refine st (v := (Sl a15 x10 c16)) (rv_assign rfl) ?_
   refine w_end ?_
   refine q_then ?_
   refine c_seq ?_
   refine rg ?_
   refine st (v := (Sl ahalf_1 half_1 chalf_1)) (rv_move rfl) ?_
   refine st (v := (I (half_1.length : Int))) (rv_len Try.underlying29 rfl) ?_
   refine st (v := (I 0)) (rv_move rfl) ?_
   refine w_end ?_
   refine q_then ?_
   obtain ⟨o20, hj, h'⟩ := bind_some h
   clear h
   refine c_cut (fun e a w => e = .normal ∧ ∃ (ρ : Nat → Value) (σ : St), a = fr 45 (updL ρ [(1, (Sl ahalf_1 half_1 chalf_1)), (4, (pt b1 0)), (5, (pt b3 0)), (10, (Sl aside_0 side_0 cside_0)), (11, (I (side_0.length : Int))), (12, (I s6.2))]) ∧ w = σ.w ∧ Hp S0 σ0 σ [Ch.bx n0 b3 0 (List.map I o20) [] [], Ch.ro 0 (Sl ahalf_1 half_1 chalf_1) half_1, Ch.bx n0 b1 0 (List.map I (List.replicate 4 0)) [] [], Ch.ro 0 (Sl aside_0 side_0 cside_0) side_0] ∧ o20.length = 4) ?_ ?_
   ·clear h'
    rename _ = some o20 => h
    refine c_blk ?_
    refine wp_loopM _ h (fun s21 a w => ∃ (ρ : Nat → Value) (σ : St), a = fr 45 (updL ρ [(1, (Sl ahalf_1 half_1 chalf_1)), (4, (pt b1 0)), (5, (pt b3 0)), (6, (I s6.2)), (7, (Sl a15 x10 c16)), (10, (Sl aside_0 side_0 cside_0)), (11, (I (side_0.length : Int))), (12, (I s6.2)), (17, (Sl ahalf_1 half_1 chalf_1)), (18, (I (half_1.length : Int))), (19, (I s21.2))]) ∧ w = σ.w ∧ Hp S0 σ0 σ [Ch.bx n0 b3 0 (List.map I s21.1) [] [], Ch.ro 0 (Sl ahalf_1 half_1 chalf_1) half_1, Ch.bx n0 b1 0 (List.map I (List.replicate 4 0)) [] [], Ch.ro 0 (Sl a15 x10 c16) x10, Ch.ro 0 (Sl aside_0 side_0 cside_0) side_0] ∧ s21.1.length = 4) ⟨_, σ7, fr_join ⟨rfl, rfl, rfl, rfl, rfl, rfl, rfl, rfl, rfl, rfl, rfl, trivial⟩, rfl, H.sel' [1, 2, 3, 0, 4] rfl rfl, hl8⟩ ?_
    clear h H
    rintro s21 a w o ⟨ρ, σ22, rfl, rfl, H, hl23⟩ h hres
    refine c_seq ?_
    refine rg ?_
    refine st (v := (B (decide (s21.2 < (half_1.length : Int))))) (rv_lss (a := s21.2) (b := (half_1.length : Int)) rfl rfl) ?_
    refine w_end ?_
    refine q_then ?_
    refine c_seq ?_
    refine cd_cond (decide (s21.2 < (half_1.length : Int))) rfl (fun hb24 => ?_) (fun hb24 => ?_)
    ·replace h := bif_t hb24 h
     refine c_skip ?_
     refine q_then ?_
     refine c_seq ?_
     refine c_blk ?_
     refine c_seq ?_
     refine rg ?_
     refine st (v := (I s21.2)) (rv_move rfl) ?_
     obtain ⟨x25, hx26, h'⟩ := bind_some h
     clear h
     have h := h'; clear h'
     obtain ⟨b28, o29, hi27, -⟩ := (H.ro 1 rfl).ix hx26
     refine st (v := (pt b28 o29)) (rv_ix Try.underlying29 ti3 rfl rfl hi27) ?_
     have hc30 := ((H.ro 1 rfl).at hx26 hi27).int
     refine st (v := (I x25)) (rv_load1 Try.underlying3 rfl rfl hc30) ?_
     refine st (v := (I s21.2)) (rv_assign rfl) ?_
     refine st (v := (I x25)) (rv_assign rfl) ?_
     refine w_end ?_
     refine q_then ?_
     refine rgP (σ := σ22) 16 (by kernel_rfl) (by kernel_rfl) (by kernel_rfl) ?_
     refine sq (v := (I s6.2)) (rv_move rfl) ?_
     obtain ⟨x31, hx32, h'⟩ := bind_some h
     clear h
     have h := h'; clear h'
     have hl33 := gidx_lt hx32 hl23
     refine sq (v := (pt b3 (0 + s6.2.toNat * 1))) (rv_indexAddr_array Try.underlying55 ti3 rfl rfl hl33.1 hl33.2) ?_
     have hc34 := Hp.arrCell H 0 rfl hx32
     refine sq (v := (I x31)) (rv_load1 Try.underlying3 rfl rfl hc34) ?_
     refine sq (v := (I x25)) (rv_move rfl) ?_
     refine sq (v := (Sl a15 x10 c16)) (rv_move rfl) ?_
     refine sq (v := (I s21.2)) (rv_move rfl) ?_
     obtain ⟨x35, hx36, h'⟩ := bind_some h
     clear h
     have h := h'; clear h'
     obtain ⟨b38, o39, hi37, -⟩ := (H.ro 3 rfl).ix hx36
     refine sq (v := (pt b38 o39)) (rv_ix Try.underlying29 ti3 rfl rfl hi37) ?_
     have hc40 := ((H.ro 3 rfl).at hx36 hi37).int
     refine sq (v := (I x35)) (rv_load1 Try.underlying3 rfl rfl hc40) ?_
     refine sq (v := (I (w64 (x25 - x35)))) (rv_sub (a := x25) (b := x35) rfl rfl) ?_
     refine sq (v := (I x25)) (rv_move rfl) ?_
     refine sq (v := (Sl a15 x10 c16)) (rv_move rfl) ?_
     refine sq (v := (I s21.2)) (rv_move rfl) ?_
     obtain ⟨x41, hx42, h'⟩ := bind_some h
     clear h
     have h := h'; clear h'
     obtain ⟨b44, o45, hi43, -⟩ := (H.ro 3 rfl).ix hx42
     refine sq (v := (pt b44 o45)) (rv_ix Try.underlying29 ti3 rfl rfl hi43) ?_
     have hc46 := ((H.ro 3 rfl).at hx42 hi43).int
     refine sq (v := (I x41)) (rv_load1 Try.underlying3 rfl rfl hc46) ?_
     refine sq (v := (I (w64 (x25 - x41)))) (rv_sub (a := x25) (b := x41) rfl rfl) ?_
     refine sq (v := (I (w64 ((w64 (x25 - x35)) * (w64 (x25 - x41)))))) (rv_mul (a := (w64 (x25 - x35))) (b := (w64 (x25 - x41))) rfl rfl) ?_
     refine sq_end ?_
     intro σ47 hm48
     replace H := H.grow (hm48.mono fun _ h => h); clear hm48
     refine st (v := (I (w64 (x31 + (w64 ((w64 (x25 - x35)) * (w64 (x25 - x41)))))))) (rv_add (a := x31) (b := (w64 ((w64 (x25 - x35)) * (w64 (x25 - x41))))) rfl rfl) ?_
     obtain ⟨x49, hx50, h'⟩ := bind_some h
     clear h
     have h := h'; clear h'
     have hl51 := gidx_lt hx50 hl23
     refine st (v := (pt b3 (0 + s6.2.toNat * 1))) (rv_indexAddr_array Try.underlying55 ti3 rfl rfl hl51.1 hl51.2) ?_
     have hl52 := gidx_lt hx50 hl23
     refine st_exS (ex_store_box (k := s6.2.toNat * 1) (vs := [(I (w64 (x31 + (w64 ((w64 (x25 - x35)) * (w64 (x25 - x41)))))))]) (cs' := (List.map I (s21.1.set s6.2.toNat (w64 (x31 + (w64 ((w64 (x25 - x35)) * (w64 (x25 - x41))))))))) H (i := 0) rfl ti3 rfl rfl rfl rfl rfl (by rw [List.length_map, hl23]; simp; omega) (by simp [plain]) (arr_set' _ _ _)) wn ?_
     rintro σ53 ⟨H, -⟩
     refine w_end ?_
     refine q_blk ?_
     refine q_then ?_
     refine rg ?_
     refine st (v := (I (w64 (s21.2 + 1)))) (rv_add (a := s21.2) (b := 1) rfl rfl) ?_
     refine st (v := (I (w64 (s21.2 + 1)))) (rv_move rfl) ?_
     refine w_end ?_
     refine q_then ?_
     obtain rfl := Option.some.inj h
     exact ⟨_, rfl, _, σ53, fr_join ⟨rfl, rfl, rfl, rfl, rfl, rfl, rfl, rfl, rfl, rfl, rfl, trivial⟩, rfl, H.sel' [0, 1, 2, 3, 4] rfl rfl, (set_len hl23)⟩
    ·replace h := bif_f hb24 h
     refine c_exit ?_
     refine q_then_x ?_
     refine q_then_x ?_
     refine q_blk_hit ?_
     obtain rfl := Option.some.inj h
     obtain rfl := hres _ rfl
     exact ⟨rfl, _, σ22, fr_join ⟨rfl, rfl, rfl, rfl, rfl, rfl, trivial⟩, rfl, H.sel' [0, 1, 2, 4] rfl rfl, hl23⟩
   ·clear hj
    have h := h'
    clear h' H
    rintro e a w ⟨rfl, ρ, σ54, rfl, rfl, H, hl55⟩
    refine q_blk ?_
    refine q_then ?_
    refine rg ?_
    refine st (v := (I (w64 (s6.2 + 1)))) (rv_add (a := s6.2) (b := 1) rfl rfl) ?_
    refine st (v := (I (w64 (s6.2 + 1)))) (rv_move rfl) ?_
    refine w_end ?_
    refine q_then ?_
    obtain rfl := Option.some.inj h
    exact ⟨_, rfl, _, σ54, fr_join ⟨rfl, rfl, rfl, rfl, rfl, rfl, trivial⟩, rfl, H.sel' [0, 1, 2, 3] rfl rfl, hl55⟩
  ·replace h := bif_f hb9 h
   refine c_exit ?_
   refine q_then_x ?_
   refine q_then_x ?_
   refine q_blk_hit ?_
   obtain rfl := Option.some.inj h
   obtain rfl := hres _ rfl
   exact ⟨rfl, _, σ7, fr_join ⟨rfl, rfl, trivial⟩, rfl, H.sel' [0, 2] rfl rfl, hl8⟩
 ·clear hj
  have h := h'
  clear h' H
  rintro e a w ⟨rfl, ρ, σ56, rfl, rfl, H, hl57⟩
  refine q_then ?_
  refine c_seq ?_
  refine rg ?_
  have hc58 := H.cells 0 rfl
  refine st (v := (.agg (List.map I o5).toArray)) (rv_load (cs := (List.map I o5)) Try.underlying55 rfl ti55 rfl (by rw [List.length_map]; exact hl57) hc58) ?_
  refine st_exS (ex_store_box (k := 0) (cs := (List.map I (List.replicate 4 0))) (vs := (List.map I o5)) (cs' := (List.map I o5)) H (i := 1) rfl ti55 rfl rfl rfl rfl ((List.length_map _).trans hl57) (arr_fits (k := 4) hl57 rfl) (plain_ints _) (arr_all (k := 4) hl57 rfl)) wn ?_
  rintro σ59 ⟨H, -⟩
  refine w_end ?_
  refine q_then ?_
  refine c_ret ?_
  obtain rfl := Option.some.inj h
  exact fin_ret (v := (.agg (List.map I o5).toArray)) (results_ok Try.results66 (res_cell rfl (run_cellRes (cs := (List.map I o5)) Try.underlying55 rfl ti55 (by rw [List.length_map]; exact hl57) (H.cells 0 rfl)) res_nil) rfl) ⟨rfl, rfl, hl57⟩ (H.sel' [] rfl rfl)

theorem c_impl_tablesOf {b_0 : (List (List Int)) × (List (List Int))} {at_1 : List Int} {ab_0_0 : Option Addr} {cb_0_0 : Nat} {ab_0_1 : Option Addr} {cb_0_1 : Nat} {aat_1 : Option Addr} {cat_1 : Nat} {r : (List Int) × (List Int)} (h : M.impl_tablesOf b_0 at_1 = some r) :
    Cal2 Try.prog 43 [(.agg #[(Sl ab_0_0 b_0.1 cb_0_0), (Sl ab_0_1 b_0.2 cb_0_1)]), (Sl aat_1 at_1 cat_1)] [Ch.ro 0 (Sl ab_0_0 b_0.1 cb_0_0) b_0.1, Ch.ro 0 (Sl ab_0_1 b_0.2 cb_0_1) b_0.2, Ch.ro 0 (Sl aat_1 at_1 cat_1) at_1] (fun n0 v L => v = (.tuple #[(.agg (List.map I r.1).toArray), (.agg (List.map I r.2).toArray)]) ∧ L = [] ∧ r.1.length = 4 ∧ r.2.length = 4) := by
 refine cal2 (n := 16) Try.func43 rfl rfl rfl rfl ?_
 intro S0 σ0 n0 hn0 H
 unfold M.impl_tablesOf at h
 refine c_seq ?_
 refine rg ?_
 refine st_ex (ex_box (cs := [(Sl ab_0_0 b_0.1 cb_0_0), (Sl ab_0_1 b_0.2 cb_0_1)]) H hn0 rfl rfl) wn ?_
 rintro _ σ2 ⟨b1, rfl, H, -⟩
 refine st_ex (ex_alloc (cs := (List.map I (List.replicate 4 0))) H hn0 ti55 rfl) wn ?_
 rintro _ σ4 ⟨b3, rfl, H, -⟩
 refine st_ex (ex_alloc (cs := (List.map I (List.replicate 4 0))) H hn0 ti55 rfl) wn ?_
 rintro _ σ6 ⟨b5, rfl, H, -⟩
 refine w_end ?_
 refine q_then ?_
 refine c_seq ?_
 have hc7 := H.cell (u := (Sl ab_0_0 b_0.1 cb_0_0)) (o' := 0) 2 0 rfl rfl rfl
 obtain ⟨xs8, hx9, h'⟩ := bind_some h
 clear h
 have h := h'; clear h'
 obtain ⟨a10, c11, hs12, hR13⟩ := (H.ro 5 rfl).slice hx9
 replace H := H.add (d := Ch.ro 0 (Sl a10 xs8 c11) xs8) hR13 (fun _ h => h)
 clear hR13
 obtain ⟨r14, hx15, h'⟩ := bind_some h
 clear h
 have h := h'; clear h'
 have hc16 := c_impl_tableOf (aside_0 := ab_0_0) (cside_0 := cb_0_0) (ahalf_1 := a10) (chalf_1 := c11) hx15
 have hc18 := H.cell (u := (Sl ab_0_1 b_0.2 cb_0_1)) (o' := 1) 3 1 rfl rfl rfl
 obtain ⟨xs19, hx20, h'⟩ := bind_some h
 clear h
 have h := h'; clear h'
 obtain ⟨a21, c22, hs23, hR24⟩ := (H.ro 6 rfl).slice hx20
 replace H := H.add (d := Ch.ro 0 (Sl a21 xs19 c22) xs19) hR24 (fun _ h => h)
 clear hR24
 have Hs := H
 refine rg2 (σ := σ6) (Nm := Unit) 9 [4] [[false], [true]] [[(0, 0)], [(0, 0)], [(0, 0)], [(0, 0)], [(0, 1)], [(0, 0), (1, 1)], [(0, 0), (1, 1)], [(0, 0), (1, 1)], [(0, 0), (1, 1)]] 1 [fun _ => fun σm => Hp S0 σ0 σm [Ch.ro 0 (Sl a21 xs19 c22) xs19, Ch.ro 0 (Sl a10 xs8 c11) xs8, Ch.bx n0 b5 0 (List.map I (List.replicate 4 0)) [] [], Ch.bx n0 b3 0 (List.map I (List.replicate 4 0)) [] [], Ch.bx n0 b1 0 [(Sl ab_0_0 b_0.1 cb_0_0), (Sl ab_0_1 b_0.2 cb_0_1)] [] [], Ch.ro 0 (Sl ab_0_0 b_0.1 cb_0_0) b_0.1, Ch.ro 0 (Sl ab_0_1 b_0.2 cb_0_1) b_0.2, Ch.ro 0 (Sl aat_1 at_1 cat_1) at_1] ∧ Md (cov []) σ6 σm, fun _ => fun σm => Hp S0 σ0 σm [Ch.ro 0 (Sl a21 xs19 c22) xs19, Ch.ro 0 (Sl a10 xs8 c11) xs8, Ch.bx n0 b5 0 (List.map I (List.replicate 4 0)) [] [], Ch.bx n0 b3 0 (List.map I (List.replicate 4 0)) [] [], Ch.bx n0 b1 0 [(Sl ab_0_0 b_0.1 cb_0_0), (Sl ab_0_1 b_0.2 cb_0_1)] [] [], Ch.ro 0 (Sl ab_0_0 b_0.1 cb_0_0) b_0.1, Ch.ro 0 (Sl ab_0_1 b_0.2 cb_0_1) b_0.2, Ch.ro 0 (Sl aat_1 at_1 cat_1) at_1] ∧ Md (cov []) σ6 σm ∧ r14.length = 4] [fun _ => (pt b1 0), fun _ => (Sl ab_0_0 b_0.1 cb_0_0), fun _ => (Sl aat_1 at_1 cat_1), fun _ => (Sl a10 xs8 c11), fun _ => (.agg (List.map I r14).toArray), fun _ => (pt b1 1), fun _ => (Sl ab_0_1 b_0.2 cb_0_1), fun _ => (Sl aat_1 at_1 cat_1), fun _ => (Sl a21 xs19 c22)] () (by kernel_rfl) (by kernel_rfl) ?_ ?_ ?_
 ·intro σm m0
  exact ⟨H.grow (m0.mono fun _ h => h.elim), m0⟩
 ·refine ac rfl (by
    intro k _nm ρ σm hJ hoff hdep
    have e2 := look_off (N := 16) (hoff 2 rfl) rfl
    exact dp_v (v := (pt b1 0)) wn (rv_fieldAddr (off := 0) (ft := 23) Try.underlying25 rfl ti23 rfl e2) rfl hJ) ?_
  refine all_cons (by
    refine ⟨?_, ?_⟩
    ·intro _nm ρ σm hJ hoff hdep
     have e6 := hdep 0 rfl rfl 6 rfl
     obtain ⟨H, m⟩ := id hJ
     have hc7 := H.cell (u := (Sl ab_0_0 b_0.1 cb_0_0)) (o' := 0) 4 0 rfl rfl rfl
     exact dp_v (v := (Sl ab_0_0 b_0.1 cb_0_0)) wn (rv_load1 Try.underlying23 rfl e6 hc7) rfl hJ
    trivial) ?_
  refine ac rfl (by
    intro k _nm ρ σm hJ hoff hdep
    have e1 := look_off (N := 16) (hoff 1 rfl) rfl
    exact dp_v (v := (Sl aat_1 at_1 cat_1)) wn (rv_move e1) rfl hJ) ?_
  refine ac rfl (by
    intro k _nm ρ σm hJ hoff hdep
    have e8 := hdep 2 rfl rfl 8 rfl
    exact dp_v (v := (Sl a10 xs8 c11)) wn (rv_slice_h Try.underlying29 ti3 hs12 e8 rfl) rfl hJ) ?_
  refine all_cons (by
    refine ⟨?_, ?_⟩
    ·intro _nm ρ σm hJ hoff hdep
     have e7 : look 16 ρ 7 = (Sl ab_0_0 b_0.1 cb_0_0) := hdep 1 rfl rfl 7 rfl
     have e9 : look 16 ρ 9 = (Sl a10 xs8 c11) := hdep 3 rfl rfl 9 rfl
     obtain ⟨H, m⟩ := id hJ
     refine dp_cx wn (cx_call hc16 (ent_f hc16.fn (by show [look 16 ρ 7, look 16 ρ 9] = _; rw [e7, e9])) hn0 (show Hp S0 σ0 _ ([Ch.ro 0 (Sl ab_0_0 b_0.1 cb_0_0) b_0.1, Ch.ro 0 (Sl a10 xs8 c11) xs8] ++ [Ch.ro 0 (Sl a21 xs19 c22) xs19, Ch.ro 0 (Sl a10 xs8 c11) xs8, Ch.bx n0 b5 0 (List.map I (List.replicate 4 0)) [] [], Ch.bx n0 b3 0 (List.map I (List.replicate 4 0)) [] [], Ch.bx n0 b1 0 [(Sl ab_0_0 b_0.1 cb_0_0), (Sl ab_0_1 b_0.2 cb_0_1)] [] [], Ch.ro 0 (Sl ab_0_0 b_0.1 cb_0_0) b_0.1, Ch.ro 0 (Sl ab_0_1 b_0.2 cb_0_1) b_0.2, Ch.ro 0 (Sl aat_1 at_1 cat_1) at_1]) from (H.sel' [5, 1, 0, 1, 2, 3, 4, 5, 6, 7] rfl rfl))) ?_
     rintro _ σq ⟨_, ⟨rfl, rfl, hl17⟩, H2, m2⟩
     exact ⟨_, (), rfl, rfl, ⟨H2.sel' [0, 1, 2, 3, 4, 5, 6, 7] rfl rfl, m.comp0 (m2.mono (fun i h => by simp [cov, Ch.ro] at h)), hl17⟩, stab [0, 1, 2, 3, 5, 6, 7, 8] (by kernel_rfl) ⟨rfl, rfl, rfl, rfl, rfl, rfl, rfl, rfl, trivial⟩⟩
    trivial) ?_
  refine ac rfl (by
    intro k _nm ρ σm hJ hoff hdep
    have e2 := look_off (N := 16) (hoff 2 rfl) rfl
    exact dp_v (v := (pt b1 1)) wn (rv_fieldAddr (off := 1) (ft := 23) Try.underlying25 rfl ti23 rfl e2) rfl hJ) ?_
  refine all_cons (by
    refine ⟨?_, ?_⟩
    ·intro _nm ρ σm hJ hoff hdep
     have e11 := hdep 5 rfl rfl 11 rfl
     obtain ⟨H, m⟩ := id hJ
     have hc18 := H.cell (u := (Sl ab_0_1 b_0.2 cb_0_1)) (o' := 1) 4 1 rfl rfl rfl
     exact dp_v (v := (Sl ab_0_1 b_0.2 cb_0_1)) wn (rv_load1 Try.underlying23 rfl e11 hc18) rfl hJ
    refine ⟨?_, ?_⟩
    ·intro _nm ρ σm hJ hoff hdep
     have e11 := hdep 5 rfl rfl 11 rfl
     obtain ⟨H, m, hl17⟩ := id hJ
     have hc18 := H.cell (u := (Sl ab_0_1 b_0.2 cb_0_1)) (o' := 1) 4 1 rfl rfl rfl
     exact dp_v (v := (Sl ab_0_1 b_0.2 cb_0_1)) wn (rv_load1 Try.underlying23 rfl e11 hc18) rfl hJ
    trivial) ?_
  refine ac rfl (by
    intro k _nm ρ σm hJ hoff hdep
    have e1 := look_off (N := 16) (hoff 1 rfl) rfl
    exact dp_v (v := (Sl aat_1 at_1 cat_1)) wn (rv_move e1) rfl hJ) ?_
  refine ac rfl (by
    intro k _nm ρ σm hJ hoff hdep
    have e13 := hdep 7 rfl rfl 13 rfl
    exact dp_v (v := (Sl a21 xs19 c22)) wn (rv_slice_l Try.underlying29 ti3 hs23 e13 rfl) rfl hJ) ?_
  exact all_nil
 ·intro _nm ρ σ25 hJ hoff hrel
  have e4 := look_off (N := 16) (hoff 4 rfl) rfl
  have e5 := look_off (N := 16) (hoff 5 rfl) rfl
  have e10 := hrel 4 rfl 10 rfl
  have e12 := hrel 6 rfl 12 rfl
  have e14 := hrel 8 rfl 14 rfl
  obtain ⟨H, -, hl17⟩ := (show Hp S0 σ0 σ25 [Ch.ro 0 (Sl a21 xs19 c22) xs19, Ch.ro 0 (Sl a10 xs8 c11) xs8, Ch.bx n0 b5 0 (List.map I (List.replicate 4 0)) [] [], Ch.bx n0 b3 0 (List.map I (List.replicate 4 0)) [] [], Ch.bx n0 b1 0 [(Sl ab_0_0 b_0.1 cb_0_0), (Sl ab_0_1 b_0.2 cb_0_1)] [] [], Ch.ro 0 (Sl ab_0_0 b_0.1 cb_0_0) b_0.1, Ch.ro 0 (Sl ab_0_1 b_0.2 cb_0_1) b_0.2, Ch.ro 0 (Sl aat_1 at_1 cat_1) at_1] ∧ Md (cov []) σ6 σ25 ∧ r14.length = 4 from hJ)
  clear hJ Hs
  rw [fr_lookL (L := [(4, (pt b3 0)), (5, (pt b5 0)), (10, (.agg (List.map I r14).toArray)), (12, (Sl ab_0_1 b_0.2 cb_0_1)), (14, (Sl a21 xs19 c22))]) ⟨e4, e5, e10, e12, e14, trivial⟩]
  clear hoff hrel e4 e5 e10 e12 e14
  obtain ⟨r26, hx27, h'⟩ := bind_some h
  clear h
  have h := h'; clear h'
  have hc28 := c_impl_tableOf (aside_0 := ab_0_1) (cside_0 := cb_0_1) (ahalf_1 := a21) (chalf_1 := c22) hx27
  refine st_call (cx_call hc28 (ent_f hc28.fn rfl) hn0 (show Hp S0 σ0 _ ([Ch.ro 0 (Sl ab_0_1 b_0.2 cb_0_1) b_0.2, Ch.ro 0 (Sl a21 xs19 c22) xs19] ++ [Ch.ro 0 (Sl a21 xs19 c22) xs19, Ch.ro 0 (Sl a10 xs8 c11) xs8, Ch.bx n0 b5 0 (List.map I (List.replicate 4 0)) [] [], Ch.bx n0 b3 0 (List.map I (List.replicate 4 0)) [] [], Ch.bx n0 b1 0 [(Sl ab_0_0 b_0.1 cb_0_0), (Sl ab_0_1 b_0.2 cb_0_1)] [] [], Ch.ro 0 (Sl ab_0_0 b_0.1 cb_0_0) b_0.1, Ch.ro 0 (Sl ab_0_1 b_0.2 cb_0_1) b_0.2, Ch.ro 0 (Sl aat_1 at_1 cat_1) at_1]) from (H.sel' [6, 0, 0, 1, 2, 3, 4, 5, 6, 7] rfl rfl))) wn ?_
  rintro _ σ30 ⟨_, ⟨rfl, rfl, hl29⟩, H, -⟩
  replace H : Hp S0 σ0 σ30 [Ch.ro 0 (Sl a21 xs19 c22) xs19, Ch.ro 0 (Sl a10 xs8 c11) xs8, Ch.bx n0 b5 0 (List.map I (List.replicate 4 0)) [] [], Ch.bx n0 b3 0 (List.map I (List.replicate 4 0)) [] [], Ch.bx n0 b1 0 [(Sl ab_0_0 b_0.1 cb_0_0), (Sl ab_0_1 b_0.2 cb_0_1)] [] [], Ch.ro 0 (Sl ab_0_0 b_0.1 cb_0_0) b_0.1, Ch.ro 0 (Sl ab_0_1 b_0.2 cb_0_1) b_0.2, Ch.ro 0 (Sl aat_1 at_1 cat_1) at_1] := H
  replace H : Hp S0 σ0 σ30 [Ch.bx n0 b5 0 (List.map I (List.replicate 4 0)) [] [], Ch.bx n0 b3 0 (List.map I (List.replicate 4 0)) [] []] := H.sel' [2, 3] rfl rfl
  refine st_exS (ex_store_box (k := 0) (cs := (List.map I (List.replicate 4 0))) (vs := (List.map I r14)) (cs' := (List.map I r14)) H (i := 1) rfl ti55 rfl rfl rfl rfl ((List.length_map _).trans hl17) (arr_fits (k := 4) hl17 rfl) (plain_ints _) (arr_all (k := 4) hl17 rfl)) wn ?_
  rintro σ31 ⟨H, -⟩
  refine st_exS (ex_store_box (k := 0) (cs := (List.map I (List.replicate 4 0))) (vs := (List.map I r26)) (cs' := (List.map I r26)) H (i := 1) rfl ti55 rfl rfl rfl rfl ((List.length_map _).trans hl29) (arr_fits (k := 4) hl29 rfl) (plain_ints _) (arr_all (k := 4) hl29 rfl)) wn ?_
  rintro σ32 ⟨H, -⟩
  refine w_end ?_
  refine q_then ?_
  refine c_ret ?_
  obtain rfl := Option.some.inj h
  exact fin_ret (v := (.tuple #[(.agg (List.map I r14).toArray), (.agg (List.map I r26).toArray)])) (results_ok Try.results43 (res_cell rfl (run_cellRes (cs := (List.map I r14)) Try.underlying55 rfl ti55 (by rw [List.length_map]; exact hl17) (H.cells 1 rfl)) (res_cell rfl (run_cellRes (cs := (List.map I r26)) Try.underlying55 rfl ti55 (by rw [List.length_map]; exact hl29) (H.cells 0 rfl)) res_nil)) rfl) ⟨rfl, rfl, hl17, hl29⟩ (H.sel' [] rfl rfl)

theorem c_slices_Index_int_int {s_0 : List Int} {v_1 : Int} {as_0 : Option Addr} {cs_0 : Nat} {r : Int} (h : M.slices_Index_int_int s_0 v_1 = some r) :
    Cal2 Try.prog 67 [(Sl as_0 s_0 cs_0), (I v_1)] [Ch.ro 0 (Sl as_0 s_0 cs_0) s_0] (fun n0 v L => v = (I r) ∧ L = []) := by
 refine cal2 (n := 19) Try.func67 rfl rfl rfl rfl ?_
 intro S0 σ0 n0 hn0 H
 unfold M.slices_Index_int_int at h
 refine c_seq ?_
 refine rg ?_
 refine st (v := (I 0)) (rv_assign rfl) ?_
 refine w_end ?_
 refine q_then ?_
 refine c_seq ?_
 refine c_seq ?_
 refine rg ?_
 refine st (v := (Sl as_0 s_0 cs_0)) (rv_move rfl) ?_
 refine st (v := (I (s_0.length : Int))) (rv_len Try.underlying29 rfl) ?_
 refine st (v := (I 0)) (rv_move rfl) ?_
 refine w_end ?_
 refine q_then ?_
 obtain ⟨o1, hj, h'⟩ := bind_some h
 clear h
 refine c_cut (fun e a w => (∃ t, o1 = (.inl t) ∧ e = .normal ∧ ∃ (ρ : Nat → Value) (σ : St), a = fr 19 (updL ρ []) ∧ w = σ.w ∧ Hp S0 σ0 σ []) ∨ (∃ t, o1 = (.inr t) ∧ e = .ret ∧ ∃ (ρ : Nat → Value) (σ : St), a = fr 19 (updL ρ [(4, (I t))]) ∧ w = σ.w ∧ Hp S0 σ0 σ [])) ?_ ?_
 ·clear h'
  rename _ = some o1 => h
  refine c_blk ?_
  refine wp_loopM _ h (fun s2 a w => ∃ (ρ : Nat → Value) (σ : St), a = fr 19 (updL ρ [(0, (Sl as_0 s_0 cs_0)), (1, (I v_1)), (7, (I (s_0.length : Int))), (8, (I s2))]) ∧ w = σ.w ∧ Hp S0 σ0 σ [Ch.ro 0 (Sl as_0 s_0 cs_0) s_0]) ⟨_, σ0, fr_join ⟨rfl, rfl, rfl, rfl, trivial⟩, rfl, H.sel' [0] rfl rfl⟩ ?_
  clear h H
  rintro s2 a w o ⟨ρ, σ3, rfl, rfl, H⟩ h hres
  refine c_seq ?_
  refine rg ?_
  refine st (v := (B (decide (s2 < (s_0.length : Int))))) (rv_lss (a := s2) (b := (s_0.length : Int)) rfl rfl) ?_
  refine w_end ?_
  refine q_then ?_
  refine c_seq ?_
  refine cd_cond (decide (s2 < (s_0.length : Int))) rfl (fun hb4 => ?_) (fun hb4 => ?_)
  ·replace h := bif_t hb4 h
   refine c_skip ?_
   refine q_then ?_
   refine c_seq ?_
   refine c_blk ?_
   refine c_seq ?_
   refine rg ?_
   refine st (v := (I s2)) (rv_move rfl) ?_
   refine st (v := (I s2)) (rv_assign rfl) ?_
   refine w_end ?_
   refine q_then ?_
   refine c_seq ?_
   refine rg ?_
   refine st (v := (I v_1)) (rv_move rfl) ?_
   refine st (v := (Sl as_0 s_0 cs_0)) (rv_move rfl) ?_
   refine st (v := (I s2)) (rv_move rfl) ?_
   obtain ⟨x5, hx6, h'⟩ := bind_some h
   clear h
   have h := h'; clear h'
   obtain ⟨b8, o9, hi7, -⟩ := (H.ro 0 rfl).ix hx6
   refine st (v := (pt b8 o9)) (rv_ix Try.underlying29 ti3 rfl rfl hi7) ?_
   have hc10 := ((H.ro 0 rfl).at hx6 hi7).int
   refine st (v := (I x5)) (rv_load1 Try.underlying3 rfl rfl hc10) ?_
   refine st (v := (B (v_1 == x5))) (rv_eql (a := v_1) (b := x5) rfl rfl) ?_
   refine w_end ?_
   refine q_then ?_
   refine cd_cond (v_1 == x5) rfl (fun hb11 => ?_) (fun hb11 => ?_)
   ·replace h := bif_t hb11 h
    refine c_seq ?_
    refine rg ?_
    refine st (v := (I s2)) (rv_move rfl) ?_
    refine st (v := (I s2)) (rv_assign rfl) ?_
    refine w_end ?_
    refine q_then ?_
    refine c_ret ?_
    refine q_blk_r ?_
    refine q_then_r ?_
    refine q_then_r ?_
    refine q_blk_r ?_
    obtain rfl := Option.some.inj h
    obtain rfl := hres _ rfl
    exact .inr (⟨_, rfl, rfl, _, σ3, fr_join ⟨rfl, trivial⟩, rfl, H.sel' [] rfl rfl⟩)
   ·replace h := bif_f hb11 h
    refine c_skip ?_
    refine q_blk ?_
    refine q_then ?_
    refine rg ?_
    refine st (v := (I (w64 (s2 + 1)))) (rv_add (a := s2) (b := 1) rfl rfl) ?_
    refine st (v := (I (w64 (s2 + 1)))) (rv_move rfl) ?_
    refine w_end ?_
    refine q_then ?_
    obtain rfl := Option.some.inj h
    exact ⟨_, rfl, _, σ3, fr_join ⟨rfl, rfl, rfl, rfl, trivial⟩, rfl, H.sel' [0] rfl rfl⟩
  ·replace h := bif_f hb4 h
   refine c_exit ?_
   refine q_then_x ?_
   refine q_then_x ?_
   refine q_blk_hit ?_
   obtain rfl := Option.some.inj h
   obtain rfl := hres _ rfl
   exact .inl ⟨_, rfl, rfl, _, σ3, fr_join trivial, rfl, H.sel' [] rfl rfl⟩
 ·clear hj
  have h := h'
  clear h' H
  rintro e a w (⟨t12, rfl, rfl, ρ, σ13, rfl, rfl, H⟩ | ⟨t14, rfl, rfl, ρ, σ15, rfl, rfl, H⟩)
  ·replace h := selim_l h
   refine q_then ?_
   refine c_seq ?_
   refine rg ?_
   refine st (v := (I (-1))) (rv_assign rfl) ?_
   refine w_end ?_
   refine q_then ?_
   refine c_ret ?_
   obtain rfl := Option.some.inj h
   exact fin_ret (v := (I (-1))) (results_ok Try.results67 (res_tmp (v := (I (-1))) rfl res_nil) rfl) ⟨rfl, rfl⟩ (H.sel' [] rfl rfl)
  ·replace h := selim_r h
   refine q_then_r ?_
   obtain rfl := Option.some.inj h
   exact fin_ret (v := (I t14)) (results_ok Try.results67 (res_tmp (v := (I t14)) rfl res_nil) rfl) ⟨rfl, rfl⟩ (H.sel' [] rfl rfl)

theorem c_slices_Min_int_int {x_0 : List Int} {ax_0 : Option Addr} {cx_0 : Nat} {r : Int} (h : M.slices_Min_int_int x_0 = some r) :
    Cal2 Try.prog 68 [(Sl ax_0 x_0 cx_0)] [Ch.ro 0 (Sl ax_0 x_0 cx_0) x_0] (fun n0 v L => v = (I r) ∧ L = []) := by
 refine cal2 (n := 25) Try.func68 rfl rfl rfl rfl ?_
 intro S0 σ0 n0 hn0 H
 unfold M.slices_Min_int_int at h
 refine c_seq ?_
 refine rg ?_
 refine st (v := (I 0)) (rv_assign rfl) ?_
 refine w_end ?_
 refine q_then ?_
 refine c_seq ?_
 refine c_seq ?_
 refine rg ?_
 refine st (v := (Sl ax_0 x_0 cx_0)) (rv_move rfl) ?_
 refine st (v := (I (x_0.length : Int))) (rv_len Try.underlying29 rfl) ?_
 refine st (v := (B (decide ((x_0.length : Int) < 1)))) (rv_lss (a := (x_0.length : Int)) (b := 1) rfl rfl) ?_
 refine w_end ?_
 refine q_then ?_
 refine cd_cond (decide ((x_0.length : Int) < 1)) rfl (fun hb1 => ?_) (fun hb1 => ?_)
 ·replace h := bif_t hb1 h
  refine rg ?_
  refine st (v := (.iface 9 (.string ⟨#[115, 108, 105, 99, 101, 115, 46, 77, 105, 110, 58, 32, 101, 109, 112, 116, 121, 32, 108, 105, 115, 116]⟩))) (rv_makeInterface Try.underlying9 rfl rfl) ?_
  cases h
 ·replace h := bif_f hb1 h
  refine c_skip ?_
  refine q_then ?_
  refine c_seq ?_
  refine rg ?_
  refine st (v := (Sl ax_0 x_0 cx_0)) (rv_move rfl) ?_
  obtain ⟨x2, hx3, h'⟩ := bind_some h
  clear h
  have h := h'; clear h'
  obtain ⟨b5, o6, hi4, -⟩ := (H.ro 0 rfl).ix hx3
  refine st (v := (pt b5 o6)) (rv_ix Try.underlying29 ti3 rfl rfl hi4) ?_
  have hc7 := ((H.ro 0 rfl).at hx3 hi4).int
  refine st (v := (I x2)) (rv_load1 Try.underlying3 rfl rfl hc7) ?_
  refine st (v := (I x2)) (rv_assign rfl) ?_
  refine w_end ?_
  refine q_then ?_
  refine c_seq ?_
  refine c_seq ?_
  refine rg ?_
  refine st (v := (I 1)) (rv_assign rfl) ?_
  refine w_end ?_
  refine q_then ?_
  obtain ⟨o8, hj, h'⟩ := bind_some h
  clear h
  refine c_cut (fun e a w => e = .normal ∧ ∃ (ρ : Nat → Value) (σ : St), a = fr 25 (updL ρ [(3, (I o8))]) ∧ w = σ.w ∧ Hp S0 σ0 σ []) ?_ ?_
  ·clear h'
   rename _ = some o8 => h
   refine c_blk ?_
   refine wp_loopM _ h (fun s9 a w => ∃ (ρ : Nat → Value) (σ : St), a = fr 25 (updL ρ [(0, (Sl ax_0 x_0 cx_0)), (3, (I s9.1)), (4, (I s9.2))]) ∧ w = σ.w ∧ Hp S0 σ0 σ [Ch.ro 0 (Sl ax_0 x_0 cx_0) x_0]) ⟨_, σ0, fr_join ⟨rfl, rfl, rfl, trivial⟩, rfl, H.sel' [0] rfl rfl⟩ ?_
   clear h H
   rintro s9 a w o ⟨ρ, σ10, rfl, rfl, H⟩ h hres
   refine c_seq ?_
   refine c_seq ?_
   refine rg ?_
   refine st (v := (I s9.2)) (rv_move rfl) ?_
   refine st (v := (Sl ax_0 x_0 cx_0)) (rv_move rfl) ?_
   refine st (v := (I (x_0.length : Int))) (rv_len Try.underlying29 rfl) ?_
   refine st (v := (B (decide (s9.2 < (x_0.length : Int))))) (rv_lss (a := s9.2) (b := (x_0.length : Int)) rfl rfl) ?_
   refine w_end ?_
   refine q_then ?_
   refine cd_cond (decide (s9.2 < (x_0.length : Int))) rfl (fun hb11 => ?_) (fun hb11 => ?_)
   ·replace h := bif_t hb11 h
    refine c_skip ?_
    refine q_then ?_
    refine c_seq ?_
    refine c_blk ?_
    refine rg ?_
    refine st (v := (I s9.1)) (rv_move rfl) ?_
    refine st (v := (Sl ax_0 x_0 cx_0)) (rv_move rfl) ?_
    refine st (v := (I s9.2)) (rv_move rfl) ?_
    obtain ⟨x12, hx13, h'⟩ := bind_some h
    clear h
    have h := h'; clear h'
    obtain ⟨b15, o16, hi14, -⟩ := (H.ro 0 rfl).ix hx13
    refine st (v := (pt b15 o16)) (rv_ix Try.underlying29 ti3 rfl rfl hi14) ?_
    have hc17 := ((H.ro 0 rfl).at hx13 hi14).int
    refine st (v := (I x12)) (rv_load1 Try.underlying3 rfl rfl hc17) ?_
    refine st (v := (I (min s9.1 x12))) (rv_min rfl rfl) ?_
    refine st (v := (I (min s9.1 x12))) (rv_assign rfl) ?_
    refine w_end ?_
    refine q_blk ?_
    refine q_then ?_
    refine rg ?_
    refine st (v := (I s9.2)) (rv_move rfl) ?_
    refine st (v := (I (w64 (s9.2 + 1)))) (rv_add (a := s9.2) (b := 1) rfl rfl) ?_
    refine st (v := (I (w64 (s9.2 + 1)))) (rv_assign rfl) ?_
    refine w_end ?_
    refine q_then ?_
    obtain rfl := Option.some.inj h
    exact ⟨_, rfl, _, σ10, fr_join ⟨rfl, rfl, rfl, trivial⟩, rfl, H.sel' [0] rfl rfl⟩
   ·replace h := bif_f hb11 h
    refine c_exit ?_
    refine q_then_x ?_
    refine q_then_x ?_
    refine q_blk_hit ?_
    obtain rfl := Option.some.inj h
    obtain rfl := hres _ rfl
    exact ⟨rfl, _, σ10, fr_join ⟨rfl, trivial⟩, rfl, H.sel' [] rfl rfl⟩
  ·clear hj
   have h := h'
   clear h' H
   rintro e a w ⟨rfl, ρ, σ18, rfl, rfl, H⟩
   refine q_then ?_
   refine c_seq ?_
   refine rg ?_
   refine st (v := (I o8)) (rv_move rfl) ?_
   refine st (v := (I o8)) (rv_assign rfl) ?_
   refine w_end ?_
   refine q_then ?_
   refine c_ret ?_
   obtain rfl := Option.some.inj h
   exact fin_ret (v := (I o8)) (results_ok Try.results68 (res_tmp (v := (I o8)) rfl res_nil) rfl) ⟨rfl, rfl⟩ (H.sel' [] rfl rfl)

theorem c_impl_sideTable_nearest {t_0 : List Int} (hlt_0 : t_0.length = 4) {r : Int} (h : M.impl_sideTable_nearest t_0 = some r) :
    Cal2 Try.prog 44 [(.agg (List.map I t_0).toArray)] [] (fun n0 v L => v = (I r) ∧ L = []) := by
 refine cal2 (n := 7) Try.func44 rfl rfl rfl rfl ?_
 intro S0 σ0 n0 hn0 H
 unfold M.impl_sideTable_nearest at h
 refine c_seq ?_
 refine rg ?_
 refine st_ex (ex_box (cs := (List.map I t_0)) H hn0 rfl rfl) wn ?_
 rintro _ σ2 ⟨b1, rfl, H, -⟩
 refine st (v := (I 0)) (rv_assign rfl) ?_
 refine w_end ?_
 refine q_then ?_
 refine c_seq ?_
 replace H := Hp.arr (el := n0) H (i := 0) rfl hlt_0
 obtain ⟨σ3, hw4, H, -⟩ := H.pub 0 rfl (Nat.le_refl _)
 rw [← hw4]; clear hw4
 replace H := H.roLow 0 0 rfl (Nat.zero_le _)
 obtain ⟨r5, hx6, h'⟩ := bind_some h
 clear h
 have h := h'; clear h'
 have hc7 := c_slices_Min_int_int (ax_0 := (some ⟨b1, 0, none⟩)) (cx_0 := 4) hx6
 have Hs := H
 refine rg2 (σ := σ3) (Nm := Unit) 3 [2] [[false], [true]] [[(0, 0), (1, 1)], [(0, 0)], [(0, 1)]] 1 [fun _ => fun σm => Hp S0 σ0 σm [Ch.ro 0 (Sl (some ⟨b1, 0, none⟩) t_0 4) t_0, Ch.ro n0 (Sl (some ⟨b1, 0, none⟩) t_0 4) t_0] ∧ Md (cov []) σ3 σm, fun _ => fun σm => Hp S0 σ0 σm [Ch.ro 0 (Sl (some ⟨b1, 0, none⟩) t_0 4) t_0, Ch.ro n0 (Sl (some ⟨b1, 0, none⟩) t_0 4) t_0] ∧ Md (cov []) σ3 σm] [fun _ => (Sl (some ⟨b1, 0, none⟩) t_0 4), fun _ => (Sl (some ⟨b1, 0, none⟩) t_0 4), fun _ => (I r5)] () (by kernel_rfl) (by kernel_rfl) ?_ ?_ ?_
 ·intro σm m0
  exact ⟨H.grow (m0.mono fun _ h => h.elim), m0⟩
 ·refine ac rfl (by
    intro k _nm ρ σm hJ hoff hdep
    have e1 := look_off (N := 7) (hoff 1 rfl) rfl
    exact dp_v (v := (Sl (some ⟨b1, 0, none⟩) t_0 4)) wn (rv_slice_arrL Try.underlying55 ti3 (by decide) e1 hlt_0) rfl hJ) ?_
  refine ac rfl (by
    intro k _nm ρ σm hJ hoff hdep
    have e1 := look_off (N := 7) (hoff 1 rfl) rfl
    exact dp_v (v := (Sl (some ⟨b1, 0, none⟩) t_0 4)) wn (rv_slice_arrL Try.underlying55 ti3 (by decide) e1 hlt_0) rfl hJ) ?_
  refine all_cons (by
    refine ⟨?_, ?_⟩
    ·intro _nm ρ σm hJ hoff hdep
     have e4 : look 7 ρ 4 = (Sl (some ⟨b1, 0, none⟩) t_0 4) := hdep 1 rfl rfl 4 rfl
     obtain ⟨H, m⟩ := id hJ
     refine dp_cx wn (cx_call hc7 (ent_f hc7.fn (by show [look 7 ρ 4] = _; rw [e4])) hn0 (show Hp S0 σ0 _ ([Ch.ro 0 (Sl (some ⟨b1, 0, none⟩) t_0 4) t_0] ++ [Ch.ro 0 (Sl (some ⟨b1, 0, none⟩) t_0 4) t_0, Ch.ro n0 (Sl (some ⟨b1, 0, none⟩) t_0 4) t_0]) from (H.sel' [0, 0, 1] rfl rfl))) ?_
     rintro _ σq ⟨_, ⟨rfl, rfl⟩, H2, m2⟩
     exact ⟨_, (), rfl, rfl, ⟨H2.sel' [0, 1] rfl rfl, m.comp0 (m2.mono (fun i h => by simp [cov, Ch.ro] at h))⟩, stab [0, 1] (by kernel_rfl) ⟨rfl, rfl, trivial⟩⟩
    trivial) ?_
  exact all_nil
 ·intro _nm ρ σ8 hJ hoff hrel
  have e3 := hrel 0 rfl 3 rfl
  have e5 := hrel 2 rfl 5 rfl
  obtain ⟨H, -⟩ := (show Hp S0 σ0 σ8 [Ch.ro 0 (Sl (some ⟨b1, 0, none⟩) t_0 4) t_0, Ch.ro n0 (Sl (some ⟨b1, 0, none⟩) t_0 4) t_0] ∧ Md (cov []) σ3 σ8 from hJ)
  clear hJ Hs
  rw [fr_lookL (L := [(3, (Sl (some ⟨b1, 0, none⟩) t_0 4)), (5, (I r5))]) ⟨e3, e5, trivial⟩]
  clear hoff hrel e3 e5
  replace H := H.roLow 1 0 rfl (Nat.zero_le _)
  obtain ⟨r9, hx10, h'⟩ := bind_some h
  clear h
  have h := h'; clear h'
  have hc11 := c_slices_Index_int_int (as_0 := (some ⟨b1, 0, none⟩)) (cs_0 := 4) hx10
  refine st_call (cx_call hc11 (ent_f hc11.fn rfl) hn0 (show Hp S0 σ0 _ ([Ch.ro 0 (Sl (some ⟨b1, 0, none⟩) t_0 4) t_0] ++ [Ch.ro 0 (Sl (some ⟨b1, 0, none⟩) t_0 4) t_0, Ch.ro 0 (Sl (some ⟨b1, 0, none⟩) t_0 4) t_0, Ch.ro n0 (Sl (some ⟨b1, 0, none⟩) t_0 4) t_0]) from (H.sel' [0, 0, 1, 2] rfl rfl))) wn ?_
  rintro _ σ12 ⟨_, ⟨rfl, rfl⟩, H, -⟩
  replace H : Hp S0 σ0 σ12 [Ch.ro 0 (Sl (some ⟨b1, 0, none⟩) t_0 4) t_0, Ch.ro 0 (Sl (some ⟨b1, 0, none⟩) t_0 4) t_0, Ch.ro n0 (Sl (some ⟨b1, 0, none⟩) t_0 4) t_0] := H
  refine st (v := (I r9)) (rv_assign rfl) ?_
  refine w_end ?_
  refine q_then ?_
  refine c_ret ?_
  obtain rfl := Option.some.inj h
  exact fin_ret (v := (I r9)) (results_ok Try.results44 (res_tmp (v := (I r9)) rfl res_nil) rfl) ⟨rfl, rfl⟩ (H.sel' [] rfl rfl)

theorem c_impl_EncodeVector {b_0 : (List (List Int)) × (List (List Int))} {at_1 : List Int} {ab_0_0 : Option Addr} {cb_0_0 : Nat} {ab_0_1 : Option Addr} {cb_0_1 : Nat} {aat_1 : Option Addr} {cat_1 : Nat} {r : Int} (h : M.impl_EncodeVector b_0 at_1 = some r) :
    Cal2 Try.prog 17 [(.agg #[(Sl ab_0_0 b_0.1 cb_0_0), (Sl ab_0_1 b_0.2 cb_0_1)]), (Sl aat_1 at_1 cat_1)] [Ch.ro 0 (Sl ab_0_0 b_0.1 cb_0_0) b_0.1, Ch.ro 0 (Sl ab_0_1 b_0.2 cb_0_1) b_0.2, Ch.ro 0 (Sl aat_1 at_1 cat_1) at_1] (fun n0 v L => v = (I r) ∧ L = []) := by
 refine cal2 (n := 27) Try.func17 rfl rfl rfl rfl ?_
 intro S0 σ0 n0 hn0 H
 unfold M.impl_EncodeVector at h
 refine c_seq ?_
 refine rg ?_
 refine st_ex (ex_box (cs := [(Sl ab_0_0 b_0.1 cb_0_0), (Sl ab_0_1 b_0.2 cb_0_1)]) H hn0 rfl rfl) wn ?_
 rintro _ σ2 ⟨b1, rfl, H, -⟩
 refine st (v := (I 0)) (rv_assign rfl) ?_
 refine w_end ?_
 refine q_then ?_
 refine c_seq ?_
 refine c_seq ?_
 obtain ⟨o3, hj, h'⟩ := bind_some h
 clear h
 refine c_cut (fun e a w => e = .normal ∧ ∃ (ρ : Nat → Value) (σ : St), a = fr 27 (updL ρ [(1, (Sl aat_1 at_1 cat_1)), (2, (pt b1 0)), (14, (B o3))]) ∧ w = σ.w ∧ Hp S0 σ0 σ [Ch.ro 0 (Sl aat_1 at_1 cat_1) at_1, Ch.ro 0 (Sl ab_0_0 b_0.1 cb_0_0) b_0.1, Ch.ro 0 (Sl ab_0_1 b_0.2 cb_0_1) b_0.2, Ch.bx n0 b1 0 [(Sl ab_0_0 b_0.1 cb_0_0), (Sl ab_0_1 b_0.2 cb_0_1)] [] []]) ?_ ?_
 ·clear h'
  rename _ = some o3 => h
  refine rg ?_
  have hc4 := H.cells 0 rfl
  refine st (v := (.agg #[(Sl ab_0_0 b_0.1 cb_0_0), (Sl ab_0_1 b_0.2 cb_0_1)])) (rv_load (cs := [(Sl ab_0_0 b_0.1 cb_0_0), (Sl ab_0_1 b_0.2 cb_0_1)]) Try.underlying25 rfl ti25 rfl rfl hc4) ?_
  obtain ⟨r5, hx6, h'⟩ := bind_some h
  clear h
  have h := h'; clear h'
  have hc7 := c_impl_ValidBook (ab_0_0 := ab_0_0) (cb_0_0 := cb_0_0) (ab_0_1 := ab_0_1) (cb_0_1 := cb_0_1) hx6
  refine st_call (cx_call hc7 (ent_f hc7.fn rfl) hn0 (show Hp S0 σ0 _ ([Ch.ro 0 (Sl ab_0_0 b_0.1 cb_0_0) b_0.1, Ch.ro 0 (Sl ab_0_1 b_0.2 cb_0_1) b_0.2] ++ [Ch.bx n0 b1 0 [(Sl ab_0_0 b_0.1 cb_0_0), (Sl ab_0_1 b_0.2 cb_0_1)] [] [], Ch.ro 0 (Sl ab_0_0 b_0.1 cb_0_0) b_0.1, Ch.ro 0 (Sl ab_0_1 b_0.2 cb_0_1) b_0.2, Ch.ro 0 (Sl aat_1 at_1 cat_1) at_1]) from (H.sel' [1, 2, 0, 1, 2, 3] rfl rfl))) wn ?_
  rintro _ σ8 ⟨_, ⟨rfl, rfl⟩, H, -⟩
  replace H : Hp S0 σ0 σ8 [Ch.bx n0 b1 0 [(Sl ab_0_0 b_0.1 cb_0_0), (Sl ab_0_1 b_0.2 cb_0_1)] [] [], Ch.ro 0 (Sl ab_0_0 b_0.1 cb_0_0) b_0.1, Ch.ro 0 (Sl ab_0_1 b_0.2 cb_0_1) b_0.2, Ch.ro 0 (Sl aat_1 at_1 cat_1) at_1] := H
  refine st (v := (B (!r5))) (rv_not rfl) ?_
  refine st (v := (B (!r5))) (rv_move rfl) ?_
  rcases Bool.eq_false_or_eq_true (!r5) with hb9 | hb9
  ·replace h := bif_t hb9 h
   refine st_skip (congrArg some hb9) ?_
   refine st_skip (congrArg some hb9) ?_
   refine st_skip (congrArg some hb9) ?_
   refine st (v := (B true)) (rv_pick_t (congrArg B hb9) rfl) ?_
   refine w_end ?_
   obtain rfl := Option.some.inj h
   exact ⟨rfl, _, σ8, fr_join ⟨rfl, rfl, rfl, trivial⟩, rfl, H.sel' [3, 1, 2, 0] rfl rfl⟩
  ·replace h := bif_f hb9 h
   refine st_g (v := (Sl aat_1 at_1 cat_1)) (congrArg some hb9) (rv_move rfl) ?_
   obtain ⟨r10, hx11, h'⟩ := bind_some h
   clear h
   have h := h'; clear h'
   have hc12 := c_impl_ValidVector (av_0 := aat_1) (cv_0 := cat_1) hx11
   refine st_call (cx_call hc12 (ent_f hc12.fn rfl) hn0 (show Hp S0 σ0 _ ([Ch.ro 0 (Sl aat_1 at_1 cat_1) at_1] ++ [Ch.bx n0 b1 0 [(Sl ab_0_0 b_0.1 cb_0_0), (Sl ab_0_1 b_0.2 cb_0_1)] [] [], Ch.ro 0 (Sl ab_0_0 b_0.1 cb_0_0) b_0.1, Ch.ro 0 (Sl ab_0_1 b_0.2 cb_0_1) b_0.2, Ch.ro 0 (Sl aat_1 at_1 cat_1) at_1]) from (H.sel' [3, 0, 1, 2, 3] rfl rfl))) (wanted_yes rfl (by exact (congrArg some hb9))) ?_
   rintro _ σ13 ⟨_, ⟨rfl, rfl⟩, H, -⟩
   replace H : Hp S0 σ0 σ13 [Ch.bx n0 b1 0 [(Sl ab_0_0 b_0.1 cb_0_0), (Sl ab_0_1 b_0.2 cb_0_1)] [] [], Ch.ro 0 (Sl ab_0_0 b_0.1 cb_0_0) b_0.1, Ch.ro 0 (Sl ab_0_1 b_0.2 cb_0_1) b_0.2, Ch.ro 0 (Sl aat_1 at_1 cat_1) at_1] := H
   refine st_g (v := (B (!r10))) (congrArg some hb9) (rv_not rfl) ?_
   refine st (v := (B (!r10))) (rv_pick_f (congrArg B hb9) rfl) ?_
   refine w_end ?_
   obtain rfl := Option.some.inj h
   exact ⟨rfl, _, σ13, fr_join ⟨rfl, rfl, rfl, trivial⟩, rfl, H.sel' [3, 1, 2, 0] rfl rfl⟩
 ·clear hj
  have h := h'
  clear h' H
  rintro e a w ⟨rfl, ρ, σ14, rfl, rfl, H⟩
  refine q_then ?_
  refine cd_cond o3 rfl (fun hb15 => ?_) (fun hb15 => ?_)
  ·replace h := bif_t hb15 h
   refine c_seq ?_
   refine rg ?_
   refine st (v := (I (-1))) (rv_assign rfl) ?_
   refine w_end ?_
   refine q_then ?_
   refine c_ret ?_
   refine q_then_r ?_
   obtain rfl := Option.some.inj h
   exact fin_ret (v := (I (-1))) (results_ok Try.results17 (res_tmp (v := (I (-1))) rfl res_nil) rfl) ⟨rfl, rfl⟩ (H.sel' [] rfl rfl)
  ·replace h := bif_f hb15 h
   refine c_skip ?_
   refine q_then ?_
   refine c_seq ?_
   refine rg ?_
   have hc16 := H.cells 3 rfl
   refine st (v := (.agg #[(Sl ab_0_0 b_0.1 cb_0_0), (Sl ab_0_1 b_0.2 cb_0_1)])) (rv_load (cs := [(Sl ab_0_0 b_0.1 cb_0_0), (Sl ab_0_1 b_0.2 cb_0_1)]) Try.underlying25 rfl ti25 rfl rfl hc16) ?_
   refine st (v := (Sl aat_1 at_1 cat_1)) (rv_move rfl) ?_
   obtain ⟨r17, hx18, h'⟩ := bind_some h
   clear h
   have h := h'; clear h'
   have hc19 := c_impl_tablesOf (ab_0_0 := ab_0_0) (cb_0_0 := cb_0_0) (ab_0_1 := ab_0_1) (cb_0_1 := cb_0_1) (aat_1 := aat_1) (cat_1 := cat_1) hx18
   refine st_call (cx_call hc19 (ent_f hc19.fn rfl) hn0 (show Hp S0 σ0 _ ([Ch.ro 0 (Sl ab_0_0 b_0.1 cb_0_0) b_0.1, Ch.ro 0 (Sl ab_0_1 b_0.2 cb_0_1) b_0.2, Ch.ro 0 (Sl aat_1 at_1 cat_1) at_1] ++ [Ch.ro 0 (Sl aat_1 at_1 cat_1) at_1, Ch.ro 0 (Sl ab_0_0 b_0.1 cb_0_0) b_0.1, Ch.ro 0 (Sl ab_0_1 b_0.2 cb_0_1) b_0.2, Ch.bx n0 b1 0 [(Sl ab_0_0 b_0.1 cb_0_0), (Sl ab_0_1 b_0.2 cb_0_1)] [] []]) from (H.sel' [1, 2, 0, 0, 1, 2, 3] rfl rfl))) wn ?_
   rintro _ σ22 ⟨_, ⟨rfl, rfl, hl20, hl21⟩, H, -⟩
   replace H : Hp S0 σ0 σ22 [Ch.ro 0 (Sl aat_1 at_1 cat_1) at_1, Ch.ro 0 (Sl ab_0_0 b_0.1 cb_0_0) b_0.1, Ch.ro 0 (Sl ab_0_1 b_0.2 cb_0_1) b_0.2, Ch.bx n0 b1 0 [(Sl ab_0_0 b_0.1 cb_0_0), (Sl ab_0_1 b_0.2 cb_0_1)] [] []] := H
   refine st (v := (.tuple #[(.agg (List.map I r17.1).toArray), (.agg (List.map I r17.2).toArray)])) (rv_move rfl) ?_
   refine st (v := (.agg (List.map I r17.1).toArray)) (rv_extract rfl rfl) ?_
   refine st (v := (.agg (List.map I r17.2).toArray)) (rv_extract rfl rfl) ?_
   refine st_ex (ex_alloc (cs := (List.map I (List.replicate 4 0))) H hn0 ti55 rfl) wn ?_
   rintro _ σ24 ⟨b23, rfl, H, -⟩
   refine st_ex (ex_alloc (cs := (List.map I (List.replicate 4 0))) H hn0 ti55 rfl) wn ?_
   rintro _ σ26 ⟨b25, rfl, H, -⟩
   refine st_exS (ex_store_box (k := 0) (cs := (List.map I (List.replicate 4 0))) (vs := (List.map I r17.1)) (cs' := (List.map I r17.1)) H (i := 1) rfl ti55 rfl rfl rfl rfl ((List.length_map _).trans hl20) (arr_fits (k := 4) hl20 rfl) (plain_ints _) (arr_all (k := 4) hl20 rfl)) wn ?_
   rintro σ27 ⟨H, -⟩
   refine st_exS (ex_store_box (k := 0) (cs := (List.map I (List.replicate 4 0))) (vs := (List.map I r17.2)) (cs' := (List.map I r17.2)) H (i := 1) rfl ti55 rfl rfl rfl rfl ((List.length_map _).trans hl21) (arr_fits (k := 4) hl21 rfl) (plain_ints _) (arr_all (k := 4) hl21 rfl)) wn ?_
   rintro σ28 ⟨H, -⟩
   refine w_end ?_
   refine q_then ?_
   refine c_seq ?_
   have hc29 := H.cells 1 rfl
   obtain ⟨r30, hx31, h'⟩ := bind_some h
   clear h
   have h := h'; clear h'
   have hc32 := c_impl_sideTable_nearest hl20 hx31
   have hc33 := H.cells 0 rfl
   obtain ⟨r34, hx35, h'⟩ := bind_some h
   clear h
   have h := h'; clear h'
   have hc36 := c_impl_sideTable_nearest hl21 hx35
   have Hs := H
   refine rg2 (σ := σ28) (Nm := Unit) 5 [1, 4] [[false, false], [true, false], [true, true]] [[(0, 0)], [(0, 1)], [(1, 1), (2, 2)], [(0, 0), (1, 1)], [(1, 2)]] 2 [fun _ => fun σm => Hp S0 σ0 σm [Ch.bx n0 b25 0 (List.map I r17.2) [] [], Ch.bx n0 b23 0 (List.map I r17.1) [] [], Ch.ro 0 (Sl aat_1 at_1 cat_1) at_1, Ch.ro 0 (Sl ab_0_0 b_0.1 cb_0_0) b_0.1, Ch.ro 0 (Sl ab_0_1 b_0.2 cb_0_1) b_0.2, Ch.bx n0 b1 0 [(Sl ab_0_0 b_0.1 cb_0_0), (Sl ab_0_1 b_0.2 cb_0_1)] [] []] ∧ Md (cov []) σ28 σm, fun _ => fun σm => Hp S0 σ0 σm [Ch.bx n0 b25 0 (List.map I r17.2) [] [], Ch.bx n0 b23 0 (List.map I r17.1) [] [], Ch.ro 0 (Sl aat_1 at_1 cat_1) at_1, Ch.ro 0 (Sl ab_0_0 b_0.1 cb_0_0) b_0.1, Ch.ro 0 (Sl ab_0_1 b_0.2 cb_0_1) b_0.2, Ch.bx n0 b1 0 [(Sl ab_0_0 b_0.1 cb_0_0), (Sl ab_0_1 b_0.2 cb_0_1)] [] []] ∧ Md (cov []) σ28 σm, fun _ => fun σm => Hp S0 σ0 σm [Ch.bx n0 b25 0 (List.map I r17.2) [] [], Ch.bx n0 b23 0 (List.map I r17.1) [] [], Ch.ro 0 (Sl aat_1 at_1 cat_1) at_1, Ch.ro 0 (Sl ab_0_0 b_0.1 cb_0_0) b_0.1, Ch.ro 0 (Sl ab_0_1 b_0.2 cb_0_1) b_0.2, Ch.bx n0 b1 0 [(Sl ab_0_0 b_0.1 cb_0_0), (Sl ab_0_1 b_0.2 cb_0_1)] [] []] ∧ Md (cov []) σ28 σm] [fun _ => (.agg (List.map I r17.1).toArray), fun _ => (I r30), fun _ => (I (w64 (4 * r30))), fun _ => (.agg (List.map I r17.2).toArray), fun _ => (I r34)] () (by kernel_rfl) (by kernel_rfl) ?_ ?_ ?_
   ·intro σm m0
    exact ⟨H.grow (m0.mono fun _ h => h.elim), m0⟩
   ·refine all_cons (by
      refine ⟨?_, ?_⟩
      ·intro _nm ρ σm hJ hoff hdep
       have e5 := look_off (N := 27) (hoff 5 rfl) rfl
       obtain ⟨H, m⟩ := id hJ
       have hc29 := H.cells 1 rfl
       exact dp_v (v := (.agg (List.map I r17.1).toArray)) wn (rv_load (cs := (List.map I r17.1)) Try.underlying55 rfl ti55 e5 (by rw [List.length_map]; exact hl20) hc29) rfl hJ
      trivial) ?_
    refine all_cons (by
      refine ⟨?_, ?_⟩
      ·intro _nm ρ σm hJ hoff hdep
       have e21 : look 27 ρ 21 = (.agg (List.map I r17.1).toArray) := hdep 0 rfl rfl 21 rfl
       obtain ⟨H, m⟩ := id hJ
       refine dp_cx wn (cx_call hc32 (ent_f hc32.fn (by show [look 27 ρ 21] = _; rw [e21])) hn0 (show Hp S0 σ0 _ ([] ++ [Ch.bx n0 b25 0 (List.map I r17.2) [] [], Ch.bx n0 b23 0 (List.map I r17.1) [] [], Ch.ro 0 (Sl aat_1 at_1 cat_1) at_1, Ch.ro 0 (Sl ab_0_0 b_0.1 cb_0_0) b_0.1, Ch.ro 0 (Sl ab_0_1 b_0.2 cb_0_1) b_0.2, Ch.bx n0 b1 0 [(Sl ab_0_0 b_0.1 cb_0_0), (Sl ab_0_1 b_0.2 cb_0_1)] [] []]) from (H.sel' [0, 1, 2, 3, 4, 5] rfl rfl))) ?_
       rintro _ σq ⟨_, ⟨rfl, rfl⟩, H2, m2⟩
       exact ⟨_, (), rfl, rfl, ⟨H2.sel' [0, 1, 2, 3, 4, 5] rfl rfl, m.comp0 m2⟩, stab [0, 3] (by kernel_rfl) ⟨rfl, rfl, trivial⟩⟩
      trivial) ?_
    refine ac rfl (by
      intro k _nm ρ σm hJ hoff hdep
      have e22 := hdep 1 rfl rfl 22 rfl
      exact dp_v (v := (I (w64 (4 * r30)))) wn (rv_mul (a := 4) (b := r30) rfl e22) rfl hJ) ?_
    refine all_cons (by
      refine ⟨?_, ?_⟩
      ·intro _nm ρ σm hJ hoff hdep
       have e6 := look_off (N := 27) (hoff 6 rfl) rfl
       obtain ⟨H, m⟩ := id hJ
       have hc33 := H.cells 0 rfl
       exact dp_v (v := (.agg (List.map I r17.2).toArray)) wn (rv_load (cs := (List.map I r17.2)) Try.underlying55 rfl ti55 e6 (by rw [List.length_map]; exact hl21) hc33) rfl hJ
      refine ⟨?_, ?_⟩
      ·intro _nm ρ σm hJ hoff hdep
       have e6 := look_off (N := 27) (hoff 6 rfl) rfl
       obtain ⟨H, m⟩ := id hJ
       have hc33 := H.cells 0 rfl
       exact dp_v (v := (.agg (List.map I r17.2).toArray)) wn (rv_load (cs := (List.map I r17.2)) Try.underlying55 rfl ti55 e6 (by rw [List.length_map]; exact hl21) hc33) rfl hJ
      trivial) ?_
    refine all_cons (by
      refine ⟨?_, ?_⟩
      ·intro _nm ρ σm hJ hoff hdep
       have e24 : look 27 ρ 24 = (.agg (List.map I r17.2).toArray) := hdep 3 rfl rfl 24 rfl
       obtain ⟨H, m⟩ := id hJ
       refine dp_cx wn (cx_call hc36 (ent_f hc36.fn (by show [look 27 ρ 24] = _; rw [e24])) hn0 (show Hp S0 σ0 _ ([] ++ [Ch.bx n0 b25 0 (List.map I r17.2) [] [], Ch.bx n0 b23 0 (List.map I r17.1) [] [], Ch.ro 0 (Sl aat_1 at_1 cat_1) at_1, Ch.ro 0 (Sl ab_0_0 b_0.1 cb_0_0) b_0.1, Ch.ro 0 (Sl ab_0_1 b_0.2 cb_0_1) b_0.2, Ch.bx n0 b1 0 [(Sl ab_0_0 b_0.1 cb_0_0), (Sl ab_0_1 b_0.2 cb_0_1)] [] []]) from (H.sel' [0, 1, 2, 3, 4, 5] rfl rfl))) ?_
       rintro _ σq ⟨_, ⟨rfl, rfl⟩, H2, m2⟩
       exact ⟨_, (), rfl, rfl, ⟨H2.sel' [0, 1, 2, 3, 4, 5] rfl rfl, m.comp0 m2⟩, stab [0, 1, 2, 3] (by kernel_rfl) ⟨rfl, rfl, rfl, rfl, trivial⟩⟩
      trivial) ?_
    exact all_nil
   ·intro _nm ρ σ37 hJ hoff hrel
    have e23 := hrel 2 rfl 23 rfl
    have e25 := hrel 4 rfl 25 rfl
    obtain ⟨H, -⟩ := (show Hp S0 σ0 σ37 [Ch.bx n0 b25 0 (List.map I r17.2) [] [], Ch.bx n0 b23 0 (List.map I r17.1) [] [], Ch.ro 0 (Sl aat_1 at_1 cat_1) at_1, Ch.ro 0 (Sl ab_0_0 b_0.1 cb_0_0) b_0.1, Ch.ro 0 (Sl ab_0_1 b_0.2 cb_0_1) b_0.2, Ch.bx n0 b1 0 [(Sl ab_0_0 b_0.1 cb_0_0), (Sl ab_0_1 b_0.2 cb_0_1)] [] []] ∧ Md (cov []) σ28 σ37 from hJ)
    clear hJ Hs
    rw [fr_lookL (L := [(23, (I (w64 (4 * r30)))), (25, (I r34))]) ⟨e23, e25, trivial⟩]
    clear hoff hrel e23 e25
    refine st (v := (I (w64 ((w64 (4 * r30)) + r34)))) (rv_add (a := (w64 (4 * r30))) (b := r34) rfl rfl) ?_
    refine st (v := (I (w64 ((w64 (4 * r30)) + r34)))) (rv_assign rfl) ?_
    refine w_end ?_
    refine q_then ?_
    refine c_ret ?_
    obtain rfl := Option.some.inj h
    exact fin_ret (v := (I (w64 ((w64 (4 * r30)) + r34)))) (results_ok Try.results17 (res_tmp (v := (I (w64 ((w64 (4 * r30)) + r34)))) rfl res_nil) rfl) ⟨rfl, rfl⟩ (H.sel' [] rfl rfl)

theorem c_impl_distanceOf {kind_0 : Int} {gaps_1 : List Int} (hlgaps_1 : gaps_1.length = 4) {r : Int} (h : M.impl_distanceOf kind_0 gaps_1 = some r) :
    Cal2 Try.prog 47 [(I kind_0), (.agg (List.map I gaps_1).toArray)] [] (fun n0 v L => v = (I r) ∧ L = []) := by
 refine cal2 (n := 38) Try.func47 rfl rfl rfl rfl ?_
 intro S0 σ0 n0 hn0 H
 unfold M.impl_distanceOf at h
 refine c_seq ?_
 refine rg ?_
 refine st_ex (ex_box (cs := (List.map I gaps_1)) H hn0 rfl rfl) wn ?_
 rintro _ σ2 ⟨b1, rfl, H, -⟩
 refine st (v := (I 0)) (rv_assign rfl) ?_
 refine w_end ?_
 refine q_then ?_
 refine c_seq ?_
 refine rg ?_
 refine st (v := (I 0)) (rv_assign rfl) ?_
 refine w_end ?_
 refine q_then ?_
 refine c_seq ?_
 refine c_seq ?_
 refine rg ?_
 have hc3 := H.cells 0 rfl
 refine st (v := (.agg (List.map I gaps_1).toArray)) (rv_load (cs := (List.map I gaps_1)) Try.underlying60 rfl ti60 rfl (by rw [List.length_map]; exact hlgaps_1) hc3) ?_
 refine st (v := (I 0)) (rv_move rfl) ?_
 refine w_end ?_
 refine q_then ?_
 obtain ⟨o4, hj, h'⟩ := bind_some h
 clear h
 refine c_cut (fun e a w => (∃ t, o4 = (.inl t) ∧ e = .normal ∧ ∃ (ρ : Nat → Value) (σ : St), a = fr 38 (updL ρ [(5, (I t))]) ∧ w = σ.w ∧ Hp S0 σ0 σ []) ∨ (∃ t, o4 = (.inr t) ∧ e = .ret ∧ ∃ (ρ : Nat → Value) (σ : St), a = fr 38 (updL ρ [(4, (I t))]) ∧ w = σ.w ∧ Hp S0 σ0 σ [])) ?_ ?_
 ·clear h'
  rename _ = some o4 => h
  refine c_blk ?_
  refine wp_loopM _ h (fun s5 a w => ∃ (ρ : Nat → Value) (σ : St), a = fr 38 (updL ρ [(0, (I kind_0)), (5, (I s5.1)), (8, (.agg (List.map I gaps_1).toArray)), (9, (I s5.2))]) ∧ w = σ.w ∧ Hp S0 σ0 σ []) ⟨_, σ2, fr_join ⟨rfl, rfl, rfl, rfl, trivial⟩, rfl, H.sel' [] rfl rfl⟩ ?_
  clear h H
  rintro s5 a w o ⟨ρ, σ6, rfl, rfl, H⟩ h hres
  refine c_seq ?_
  refine rg ?_
  refine st (v := (B (decide (s5.2 < 4)))) (rv_lss (a := s5.2) (b := 4) rfl rfl) ?_
  refine w_end ?_
  refine q_then ?_
  refine c_seq ?_
  refine cd_cond (decide (s5.2 < 4)) rfl (fun hb7 => ?_) (fun hb7 => ?_)
  ·replace h := bif_t hb7 h
   refine c_skip ?_
   refine q_then ?_
   refine c_seq ?_
   obtain ⟨o8, hj, h'⟩ := bind_some h
   clear h
   refine c_cut (fun e a w => (∃ t, o8 = (.inl t) ∧ e = .normal ∧ ∃ (ρ : Nat → Value) (σ : St), a = fr 38 (updL ρ [(0, (I kind_0)), (5, (I t)), (8, (.agg (List.map I gaps_1).toArray)), (9, (I s5.2))]) ∧ w = σ.w ∧ Hp S0 σ0 σ []) ∨ (∃ t, o8 = (.inr t) ∧ e = .ret ∧ ∃ (ρ : Nat → Value) (σ : St), a = fr 38 (updL ρ [(4, (I t))]) ∧ w = σ.w ∧ Hp S0 σ0 σ [])) ?_ ?_
   ·clear h'
    rename _ = some o8 => h
    refine c_blk ?_
    refine c_seq ?_
    refine rg ?_
    obtain ⟨x9, hx10, h'⟩ := bind_some h
    clear h
    have h := h'; clear h'
    refine st (v := (I x9)) (rv_idx Try.underlying60 ti3 Try.underlying3 rfl rfl hx10 hlgaps_1) ?_
    refine st (v := (I x9)) (rv_assign rfl) ?_
    refine w_end ?_
    refine q_then ?_
    refine c_seq ?_
    refine rg ?_
    refine st (v := (I kind_0)) (rv_move rfl) ?_
    refine w_end ?_
    refine q_then ?_
    refine c_blk ?_
    refine c_seq ?_
    refine rg ?_
    refine st (v := (B (kind_0 == 1))) (rv_eql (a := kind_0) (b := 1) rfl rfl) ?_
    refine st (v := (B (kind_0 == 1))) (rv_assign rfl) ?_
    refine w_end ?_
    refine q_then ?_
    refine cd_cond (kind_0 == 1) rfl (fun hb11 => ?_) (fun hb11 => ?_)
    ·replace h := bif_t hb11 h
     refine rg ?_
     refine st (v := (I s5.1)) (rv_move rfl) ?_
     refine st (v := (I x9)) (rv_move rfl) ?_
     refine st (v := (I (w64 (s5.1 + x9)))) (rv_add (a := s5.1) (b := x9) rfl rfl) ?_
     refine st (v := (I (w64 (s5.1 + x9)))) (rv_assign rfl) ?_
     refine w_end ?_
     refine q_blk ?_
     refine q_blk ?_
     obtain rfl := Option.some.inj h
     exact .inl ⟨_, rfl, rfl, _, σ6, fr_join ⟨rfl, rfl, rfl, rfl, trivial⟩, rfl, H.sel' [] rfl rfl⟩
    ·replace h := bif_f hb11 h
     refine c_seq ?_
     refine rg ?_
     refine st (v := (B (kind_0 == 2))) (rv_eql (a := kind_0) (b := 2) rfl rfl) ?_
     refine st (v := (B (kind_0 == 2))) (rv_assign rfl) ?_
     refine w_end ?_
     refine q_then ?_
     refine cd_cond (kind_0 == 2) rfl (fun hb12 => ?_) (fun hb12 => ?_)
     ·replace h := bif_t hb12 h
      refine rg ?_
      refine st (v := (I s5.1)) (rv_move rfl) ?_
      refine st (v := (I x9)) (rv_move rfl) ?_
      refine st (v := (I (max s5.1 x9))) (rv_max rfl rfl) ?_
      refine st (v := (I (max s5.1 x9))) (rv_assign rfl) ?_
      refine w_end ?_
      refine q_blk ?_
      refine q_blk ?_
      obtain rfl := Option.some.inj h
      exact .inl ⟨_, rfl, rfl, _, σ6, fr_join ⟨rfl, rfl, rfl, rfl, trivial⟩, rfl, H.sel' [] rfl rfl⟩
     ·replace h := bif_f hb12 h
      refine c_seq ?_
      refine rg ?_
      refine st (v := (B (kind_0 == 3))) (rv_eql (a := kind_0) (b := 3) rfl rfl) ?_
      refine st (v := (B (kind_0 == 3))) (rv_assign rfl) ?_
      refine w_end ?_
      refine q_then ?_
      refine cd_cond (kind_0 == 3) rfl (fun hb13 => ?_) (fun hb13 => ?_)
      ·replace h := bif_t hb13 h
       refine rg ?_
       refine st (v := (I s5.1)) (rv_move rfl) ?_
       refine st (v := (I x9)) (rv_move rfl) ?_
       refine st (v := (I x9)) (rv_move rfl) ?_
       refine st (v := (I (w64 (x9 * x9)))) (rv_mul (a := x9) (b := x9) rfl rfl) ?_
       refine st (v := (I (w64 (s5.1 + (w64 (x9 * x9)))))) (rv_add (a := s5.1) (b := (w64 (x9 * x9))) rfl rfl) ?_
       refine st (v := (I (w64 (s5.1 + (w64 (x9 * x9)))))) (rv_assign rfl) ?_
       refine w_end ?_
       refine q_blk ?_
       refine q_blk ?_
       obtain rfl := Option.some.inj h
       exact .inl ⟨_, rfl, rfl, _, σ6, fr_join ⟨rfl, rfl, rfl, rfl, trivial⟩, rfl, H.sel' [] rfl rfl⟩
      ·replace h := bif_f hb13 h
       refine c_seq ?_
       refine rg ?_
       refine st (v := (B (kind_0 == 4))) (rv_eql (a := kind_0) (b := 4) rfl rfl) ?_
       refine st (v := (B (kind_0 == 4))) (rv_assign rfl) ?_
       refine w_end ?_
       refine q_then ?_
       refine cd_cond (kind_0 == 4) rfl (fun hb14 => ?_) (fun hb14 => ?_)
       ·replace h := bif_t hb14 h
        refine rg ?_
        refine st (v := (I s5.1)) (rv_move rfl) ?_
        refine st (v := (I x9)) (rv_move rfl) ?_
        refine st (v := (I (min x9 1))) (rv_min rfl rfl) ?_
        refine st (v := (I (w64 (s5.1 + (min x9 1))))) (rv_add (a := s5.1) (b := (min x9 1)) rfl rfl) ?_
        refine st (v := (I (w64 (s5.1 + (min x9 1))))) (rv_assign rfl) ?_
        refine w_end ?_
        refine q_blk ?_
        refine q_blk ?_
        obtain rfl := Option.some.inj h
        exact .inl ⟨_, rfl, rfl, _, σ6, fr_join ⟨rfl, rfl, rfl, rfl, trivial⟩, rfl, H.sel' [] rfl rfl⟩
       ·replace h := bif_f hb14 h
        refine c_seq ?_
        refine rg ?_
        refine st (v := (I (-1))) (rv_assign rfl) ?_
        refine w_end ?_
        refine q_then ?_
        refine c_ret ?_
        refine q_blk_r ?_
        refine q_blk_r ?_
        obtain rfl := Option.some.inj h
        exact .inr (⟨_, rfl, rfl, _, σ6, fr_join ⟨rfl, trivial⟩, rfl, H.sel' [] rfl rfl⟩)
   ·clear hj
    have h := h'
    clear h' H
    rintro e a w (⟨t15, rfl, rfl, ρ, σ16, rfl, rfl, H⟩ | ⟨t17, rfl, rfl, ρ, σ18, rfl, rfl, H⟩)
    ·replace h := selim_l h
     refine q_then ?_
     refine rg ?_
     refine st (v := (I (w64 (s5.2 + 1)))) (rv_add (a := s5.2) (b := 1) rfl rfl) ?_
     refine st (v := (I (w64 (s5.2 + 1)))) (rv_move rfl) ?_
     refine w_end ?_
     refine q_then ?_
     obtain rfl := Option.some.inj h
     exact ⟨_, rfl, _, σ16, fr_join ⟨rfl, rfl, rfl, rfl, trivial⟩, rfl, H.sel' [] rfl rfl⟩
    ·replace h := selim_r h
     refine q_then_r ?_
     refine q_then_r ?_
     refine q_blk_r ?_
     obtain rfl := Option.some.inj h
     obtain rfl := hres _ rfl
     exact .inr (⟨_, rfl, rfl, _, σ18, fr_join ⟨rfl, trivial⟩, rfl, H.sel' [] rfl rfl⟩)
  ·replace h := bif_f hb7 h
   refine c_exit ?_
   refine q_then_x ?_
   refine q_then_x ?_
   refine q_blk_hit ?_
   obtain rfl := Option.some.inj h
   obtain rfl := hres _ rfl
   exact .inl ⟨_, rfl, rfl, _, σ6, fr_join ⟨rfl, trivial⟩, rfl, H.sel' [] rfl rfl⟩
 ·clear hj
  have h := h'
  clear h' H
  rintro e a w (⟨t19, rfl, rfl, ρ, σ20, rfl, rfl, H⟩ | ⟨t21, rfl, rfl, ρ, σ22, rfl, rfl, H⟩)
  ·replace h := selim_l h
   refine q_then ?_
   refine c_seq ?_
   refine rg ?_
   refine st (v := (I t19)) (rv_move rfl) ?_
   refine st (v := (I t19)) (rv_assign rfl) ?_
   refine w_end ?_
   refine q_then ?_
   refine c_ret ?_
   obtain rfl := Option.some.inj h
   exact fin_ret (v := (I t19)) (results_ok Try.results47 (res_tmp (v := (I t19)) rfl res_nil) rfl) ⟨rfl, rfl⟩ (H.sel' [] rfl rfl)
  ·replace h := selim_r h
   refine q_then_r ?_
   obtain rfl := Option.some.inj h
   exact fin_ret (v := (I t21)) (results_ok Try.results47 (res_tmp (v := (I t21)) rfl res_nil) rfl) ⟨rfl, rfl⟩ (H.sel' [] rfl rfl)

theorem c_impl_gapsOf {a_0 : List Int} {b_1 : List Int} (hla_0 : a_0.length = 4) (hlb_1 : b_1.length = 4) {r : (List Int)} (h : M.impl_gapsOf a_0 b_1 = some r) :
    Cal2 Try.prog 48 [(.agg (List.map I a_0).toArray), (.agg (List.map I b_1).toArray)] [] (fun n0 v L => v = (.agg (List.map I r).toArray) ∧ L = [] ∧ r.length = 4) := by
 refine cal2 (n := 29) Try.func48 rfl rfl rfl rfl ?_
 intro S0 σ0 n0 hn0 H
 unfold M.impl_gapsOf at h
 refine c_seq ?_
 refine rg ?_
 refine st_ex (ex_box (cs := (List.map I a_0)) H hn0 rfl rfl) wn ?_
 rintro _ σ2 ⟨b1, rfl, H, -⟩
 refine st_ex (ex_box (cs := (List.map I b_1)) H hn0 rfl rfl) wn ?_
 rintro _ σ4 ⟨b3, rfl, H, -⟩
 refine st_ex (ex_alloc (cs := (List.map I (List.replicate 4 0))) H hn0 ti60 rfl) wn ?_
 rintro _ σ6 ⟨b5, rfl, H, -⟩
 refine w_end ?_
 refine q_then ?_
 refine c_seq ?_
 refine rg ?_
 refine st_ex (ex_alloc (cs := (List.map I (List.replicate 4 0))) H hn0 ti60 rfl) wn ?_
 rintro _ σ8 ⟨b7, rfl, H, -⟩
 refine w_end ?_
 refine q_then ?_
 refine c_seq ?_
 refine c_seq ?_
 refine rg ?_
 refine st (v := (I 0)) (rv_move rfl) ?_
 refine w_end ?_
 refine q_then ?_
 obtain ⟨o9, hj, h'⟩ := bind_some h
 clear h
 refine c_cut (fun e a w => e = .normal ∧ ∃ (ρ : Nat → Value) (σ : St), a = fr 29 (updL ρ [(4, (pt b5 0)), (5, (pt b7 0))]) ∧ w = σ.w ∧ Hp S0 σ0 σ [Ch.bx n0 b7 0 (List.map I o9) [] [], Ch.bx n0 b5 0 (List.map I (List.replicate 4 0)) [] []] ∧ o9.length = 4) ?_ ?_
 ·clear h'
  rename _ = some o9 => h
  refine c_blk ?_
  refine wp_loopM _ h (fun s10 a w => ∃ (ρ : Nat → Value) (σ : St), a = fr 29 (updL ρ [(2, (pt b1 0)), (3, (pt b3 0)), (4, (pt b5 0)), (5, (pt b7 0)), (7, (I s10.2))]) ∧ w = σ.w ∧ Hp S0 σ0 σ [Ch.bx n0 b7 0 (List.map I s10.1) [] [], Ch.bx n0 b1 0 (List.map I a_0) [] [], Ch.bx n0 b3 0 (List.map I b_1) [] [], Ch.bx n0 b5 0 (List.map I (List.replicate 4 0)) [] []] ∧ s10.1.length = 4) ⟨_, σ8, fr_join ⟨rfl, rfl, rfl, rfl, rfl, trivial⟩, rfl, H.sel' [0, 3, 2, 1] rfl rfl, rfl⟩ ?_
  clear h H
  rintro s10 a w o ⟨ρ, σ11, rfl, rfl, H, hl12⟩ h hres
  refine c_seq ?_
  refine rg ?_
  refine st (v := (B (decide (s10.2 < 4)))) (rv_lss (a := s10.2) (b := 4) rfl rfl) ?_
  refine w_end ?_
  refine q_then ?_
  refine c_seq ?_
  refine cd_cond (decide (s10.2 < 4)) rfl (fun hb13 => ?_) (fun hb13 => ?_)
  ·replace h := bif_t hb13 h
   refine c_skip ?_
   refine q_then ?_
   refine c_seq ?_
   refine c_blk ?_
   refine c_seq ?_
   refine rg ?_
   refine st (v := (I s10.2)) (rv_move rfl) ?_
   refine st (v := (I s10.2)) (rv_assign rfl) ?_
   refine w_end ?_
   refine q_then ?_
   refine rgP (σ := σ11) 16 (by kernel_rfl) (by kernel_rfl) (by kernel_rfl) ?_
   refine sq (v := (I s10.2)) (rv_move rfl) ?_
   refine sq (v := (I s10.2)) (rv_move rfl) ?_
   obtain ⟨x14, hx15, h'⟩ := bind_some h
   clear h
   have h := h'; clear h'
   have hl16 := gidx_lt hx15 hla_0
   refine sq (v := (pt b1 (0 + s10.2.toNat * 1))) (rv_indexAddr_array Try.underlying60 ti3 rfl rfl hl16.1 hl16.2) ?_
   have hc17 := Hp.arrCell H 1 rfl hx15
   refine sq (v := (I x14)) (rv_load1 Try.underlying3 rfl rfl hc17) ?_
   refine sq (v := (I s10.2)) (rv_move rfl) ?_
   obtain ⟨x18, hx19, h'⟩ := bind_some h
   clear h
   have h := h'; clear h'
   have hl20 := gidx_lt hx19 hlb_1
   refine sq (v := (pt b3 (0 + s10.2.toNat * 1))) (rv_indexAddr_array Try.underlying60 ti3 rfl rfl hl20.1 hl20.2) ?_
   have hc21 := Hp.arrCell H 2 rfl hx19
   refine sq (v := (I x18)) (rv_load1 Try.underlying3 rfl rfl hc21) ?_
   refine sq (v := (I (w64 (x14 - x18)))) (rv_sub (a := x14) (b := x18) rfl rfl) ?_
   refine sq (v := (I s10.2)) (rv_move rfl) ?_
   obtain ⟨x22, hx23, h'⟩ := bind_some h
   clear h
   have h := h'; clear h'
   have hl24 := gidx_lt hx23 hlb_1
   refine sq (v := (pt b3 (0 + s10.2.toNat * 1))) (rv_indexAddr_array Try.underlying60 ti3 rfl rfl hl24.1 hl24.2) ?_
   have hc25 := Hp.arrCell H 2 rfl hx23
   refine sq (v := (I x22)) (rv_load1 Try.underlying3 rfl rfl hc25) ?_
   refine sq (v := (I s10.2)) (rv_move rfl) ?_
   obtain ⟨x26, hx27, h'⟩ := bind_some h
   clear h
   have h := h'; clear h'
   have hl28 := gidx_lt hx27 hla_0
   refine sq (v := (pt b1 (0 + s10.2.toNat * 1))) (rv_indexAddr_array Try.underlying60 ti3 rfl rfl hl28.1 hl28.2) ?_
   have hc29 := Hp.arrCell H 1 rfl hx27
   refine sq (v := (I x26)) (rv_load1 Try.underlying3 rfl rfl hc29) ?_
   refine sq (v := (I (w64 (x22 - x26)))) (rv_sub (a := x22) (b := x26) rfl rfl) ?_
   refine sq (v := (I (max (w64 (x14 - x18)) (w64 (x22 - x26))))) (rv_max rfl rfl) ?_
   refine sq_end ?_
   intro σ30 hm31
   replace H := H.grow (hm31.mono fun _ h => h); clear hm31
   obtain ⟨x32, hx33, h'⟩ := bind_some h
   clear h
   have h := h'; clear h'
   have hl34 := gidx_lt hx33 hl12
   refine st (v := (pt b7 (0 + s10.2.toNat * 1))) (rv_indexAddr_array Try.underlying60 ti3 rfl rfl hl34.1 hl34.2) ?_
   have hl35 := gidx_lt hx33 hl12
   refine st_exS (ex_store_box (k := s10.2.toNat * 1) (vs := [(I (max (w64 (x14 - x18)) (w64 (x22 - x26))))]) (cs' := (List.map I (s10.1.set s10.2.toNat (max (w64 (x14 - x18)) (w64 (x22 - x26)))))) H (i := 0) rfl ti3 rfl rfl rfl rfl rfl (by rw [List.length_map, hl12]; simp; omega) (by simp [plain]) (arr_set' _ _ _)) wn ?_
   rintro σ36 ⟨H, -⟩
   refine w_end ?_
   refine q_blk ?_
   refine q_then ?_
   refine rg ?_
   refine st (v := (I (w64 (s10.2 + 1)))) (rv_add (a := s10.2) (b := 1) rfl rfl) ?_
   refine st (v := (I (w64 (s10.2 + 1)))) (rv_move rfl) ?_
   refine w_end ?_
   refine q_then ?_
   obtain rfl := Option.some.inj h
   exact ⟨_, rfl, _, σ36, fr_join ⟨rfl, rfl, rfl, rfl, rfl, trivial⟩, rfl, H.sel' [0, 1, 2, 3] rfl rfl, (set_len hl12)⟩
  ·replace h := bif_f hb13 h
   refine c_exit ?_
   refine q_then_x ?_
   refine q_then_x ?_
   refine q_blk_hit ?_
   obtain rfl := Option.some.inj h
   obtain rfl := hres _ rfl
   exact ⟨rfl, _, σ11, fr_join ⟨rfl, rfl, trivial⟩, rfl, H.sel' [0, 3] rfl rfl, hl12⟩
 ·clear hj
  have h := h'
  clear h' H
  rintro e a w ⟨rfl, ρ, σ37, rfl, rfl, H, hl38⟩
  refine q_then ?_
  refine c_seq ?_
  refine rg ?_
  have hc39 := H.cells 0 rfl
  refine st (v := (.agg (List.map I o9).toArray)) (rv_load (cs := (List.map I o9)) Try.underlying60 rfl ti60 rfl (by rw [List.length_map]; exact hl38) hc39) ?_
  refine st_exS (ex_store_box (k := 0) (cs := (List.map I (List.replicate 4 0))) (vs := (List.map I o9)) (cs' := (List.map I o9)) H (i := 1) rfl ti60 rfl rfl rfl rfl ((List.length_map _).trans hl38) (arr_fits (k := 4) hl38 rfl) (plain_ints _) (arr_all (k := 4) hl38 rfl)) wn ?_
  rintro σ40 ⟨H, -⟩
  refine w_end ?_
  refine q_then ?_
  refine c_ret ?_
  obtain rfl := Option.some.inj h
  exact fin_ret (v := (.agg (List.map I o9).toArray)) (results_ok Try.results48 (res_cell rfl (run_cellRes (cs := (List.map I o9)) Try.underlying60 rfl ti60 (by rw [List.length_map]; exact hl38) (H.cells 0 rfl)) res_nil) rfl) ⟨rfl, rfl, hl38⟩ (H.sel' [] rfl rfl)

theorem c_impl_Distance {kind_0 : Int} {a_1 : List Int} {b_2 : List Int} {aa_1 : Option Addr} {ca_1 : Nat} {ab_2 : Option Addr} {cb_2 : Nat} {r : Int} (h : M.impl_Distance kind_0 a_1 b_2 = some r) :
    Cal2 Try.prog 19 [(I kind_0), (Sl aa_1 a_1 ca_1), (Sl ab_2 b_2 cb_2)] [Ch.ro 0 (Sl aa_1 a_1 ca_1) a_1, Ch.ro 0 (Sl ab_2 b_2 cb_2) b_2] (fun n0 v L => v = (I r) ∧ L = []) := by
 refine cal2 (n := 24) Try.func19 rfl rfl rfl rfl ?_
 intro S0 σ0 n0 hn0 H
 unfold M.impl_Distance at h
 refine c_seq ?_
 refine rg ?_
 refine st (v := (I 0)) (rv_assign rfl) ?_
 refine w_end ?_
 refine q_then ?_
 refine c_seq ?_
 refine c_seq ?_
 obtain ⟨o1, hj, h'⟩ := bind_some h
 clear h
 refine c_cut (fun e a w => e = .normal ∧ ∃ (ρ : Nat → Value) (σ : St), a = fr 24 (updL ρ [(0, (I kind_0)), (1, (Sl aa_1 a_1 ca_1)), (2, (Sl ab_2 b_2 cb_2)), (14, (B o1))]) ∧ w = σ.w ∧ Hp S0 σ0 σ [Ch.ro 0 (Sl aa_1 a_1 ca_1) a_1, Ch.ro 0 (Sl ab_2 b_2 cb_2) b_2]) ?_ ?_
 ·clear h'
  rename _ = some o1 => h
  refine rg ?_
  refine st (v := (Sl aa_1 a_1 ca_1)) (rv_move rfl) ?_
  obtain ⟨r2, hx3, h'⟩ := bind_some h
  clear h
  have h := h'; clear h'
  have hc4 := c_impl_ValidVector (av_0 := aa_1) (cv_0 := ca_1) hx3
  refine st_call (cx_call hc4 (ent_f hc4.fn rfl) hn0 (show Hp S0 σ0 _ ([Ch.ro 0 (Sl aa_1 a_1 ca_1) a_1] ++ [Ch.ro 0 (Sl aa_1 a_1 ca_1) a_1, Ch.ro 0 (Sl ab_2 b_2 cb_2) b_2]) from (H.sel' [0, 0, 1] rfl rfl))) wn ?_
  rintro _ σ5 ⟨_, ⟨rfl, rfl⟩, H, -⟩
  replace H : Hp S0 σ0 σ5 [Ch.ro 0 (Sl aa_1 a_1 ca_1) a_1, Ch.ro 0 (Sl ab_2 b_2 cb_2) b_2] := H
  refine st (v := (B (!r2))) (rv_not rfl) ?_
  refine st (v := (B (!r2))) (rv_move rfl) ?_
  rcases Bool.eq_false_or_eq_true (!r2) with hb6 | hb6
  ·replace h := bif_t hb6 h
   refine st_skip (congrArg some hb6) ?_
   refine st_skip (congrArg some hb6) ?_
   refine st_skip (congrArg some hb6) ?_
   refine st (v := (B true)) (rv_pick_t (congrArg B hb6) rfl) ?_
   refine w_end ?_
   obtain rfl := Option.some.inj h
   exact ⟨rfl, _, σ5, fr_join ⟨rfl, rfl, rfl, rfl, trivial⟩, rfl, H.sel' [0, 1] rfl rfl⟩
  ·replace h := bif_f hb6 h
   refine st_g (v := (Sl ab_2 b_2 cb_2)) (congrArg some hb6) (rv_move rfl) ?_
   obtain ⟨r7, hx8, h'⟩ := bind_some h
   clear h
   have h := h'; clear h'
   have hc9 := c_impl_ValidVector (av_0 := ab_2) (cv_0 := cb_2) hx8
   refine st_call (cx_call hc9 (ent_f hc9.fn rfl) hn0 (show Hp S0 σ0 _ ([Ch.ro 0 (Sl ab_2 b_2 cb_2) b_2] ++ [Ch.ro 0 (Sl aa_1 a_1 ca_1) a_1, Ch.ro 0 (Sl ab_2 b_2 cb_2) b_2]) from (H.sel' [1, 0, 1] rfl rfl))) (wanted_yes rfl (by exact (congrArg some hb6))) ?_
   rintro _ σ10 ⟨_, ⟨rfl, rfl⟩, H, -⟩
   replace H : Hp S0 σ0 σ10 [Ch.ro 0 (Sl aa_1 a_1 ca_1) a_1, Ch.ro 0 (Sl ab_2 b_2 cb_2) b_2] := H
   refine st_g (v := (B (!r7))) (congrArg some hb6) (rv_not rfl) ?_
   refine st (v := (B (!r7))) (rv_pick_f (congrArg B hb6) rfl) ?_
   refine w_end ?_
   obtain rfl := Option.some.inj h
   exact ⟨rfl, _, σ10, fr_join ⟨rfl, rfl, rfl, rfl, trivial⟩, rfl, H.sel' [0, 1] rfl rfl⟩
 ·clear hj
  have h := h'
  clear h' H
  rintro e a w ⟨rfl, ρ, σ11, rfl, rfl, H⟩
  refine q_then ?_
  refine cd_cond o1 rfl (fun hb12 => ?_) (fun hb12 => ?_)
  ·replace h := bif_t hb12 h
   refine c_seq ?_
   refine rg ?_
   refine st (v := (I (-1))) (rv_assign rfl) ?_
   refine w_end ?_
   refine q_then ?_
   refine c_ret ?_
   refine q_then_r ?_
   obtain rfl := Option.some.inj h
   exact fin_ret (v := (I (-1))) (results_ok Try.results19 (res_tmp (v := (I (-1))) rfl res_nil) rfl) ⟨rfl, rfl⟩ (H.sel' [] rfl rfl)
  ·replace h := bif_f hb12 h
   refine c_skip ?_
   refine q_then ?_
   refine c_seq ?_
   obtain ⟨xs13, hx14, h'⟩ := bind_some h
   clear h
   have h := h'; clear h'
   obtain ⟨hl18, hq19⟩ := garr_some hx14
   clear hx14 hq19
   obtain ⟨b15, o16, rfl, hc17⟩ := (H.ro 0 rfl).arr (Nat.lt_of_lt_of_le (by decide) hl18)
   obtain ⟨xs20, hx21, h'⟩ := bind_some h
   clear h
   have h := h'; clear h'
   obtain ⟨hl25, hq26⟩ := garr_some hx21
   clear hx21 hq26
   obtain ⟨b22, o23, rfl, hc24⟩ := (H.ro 1 rfl).arr (Nat.lt_of_lt_of_le (by decide) hl25)
   obtain ⟨r27, hx28, h'⟩ := bind_some h
   clear h
   have h := h'; clear h'
   have hc29 := c_impl_gapsOf (by rw [List.length_take]; have := hl18; omega) (by rw [List.length_take]; have := hl25; omega) hx28
   have Hs := H
   refine rg2 (σ := σ11) (Nm := Unit) 8 [7] [[false], [true]] [[(0, 0), (1, 1)], [(0, 0)], [(0, 0)], [(0, 0)], [(0, 0)], [(0, 0)], [(0, 0)], [(0, 1)]] 1 [fun _ => fun σm => Hp S0 σ0 σm [Ch.ro 0 (Sl (some ⟨b15, o16, none⟩) a_1 ca_1) a_1, Ch.ro 0 (Sl (some ⟨b22, o23, none⟩) b_2 cb_2) b_2] ∧ Md (cov []) σ11 σm, fun _ => fun σm => Hp S0 σ0 σm [Ch.ro 0 (Sl (some ⟨b15, o16, none⟩) a_1 ca_1) a_1, Ch.ro 0 (Sl (some ⟨b22, o23, none⟩) b_2 cb_2) b_2] ∧ Md (cov []) σ11 σm ∧ r27.length = 4] [fun _ => (I kind_0), fun _ => (Sl (some ⟨b15, o16, none⟩) a_1 ca_1), fun _ => (.pointer (some ⟨b15, o16, none⟩)), fun _ => (.agg (List.map I (List.take 4 a_1)).toArray), fun _ => (Sl (some ⟨b22, o23, none⟩) b_2 cb_2), fun _ => (.pointer (some ⟨b22, o23, none⟩)), fun _ => (.agg (List.map I (List.take 4 b_2)).toArray), fun _ => (.agg (List.map I r27).toArray)] () (by kernel_rfl) (by kernel_rfl) ?_ ?_ ?_
   ·intro σm m0
    exact ⟨H.grow (m0.mono fun _ h => h.elim), m0⟩
   ·refine ac rfl (by
      intro k _nm ρ σm hJ hoff hdep
      have e0 := look_off (N := 24) (hoff 0 rfl) rfl
      exact dp_v (v := (I kind_0)) wn (rv_move e0) rfl hJ) ?_
    refine ac rfl (by
      intro k _nm ρ σm hJ hoff hdep
      have e1 := look_off (N := 24) (hoff 1 rfl) rfl
      exact dp_v (v := (Sl (some ⟨b15, o16, none⟩) a_1 ca_1)) wn (rv_move e1) rfl hJ) ?_
    refine ac rfl (by
      intro k _nm ρ σm hJ hoff hdep
      have e16 := hdep 1 rfl rfl 16 rfl
      exact dp_v (v := (.pointer (some ⟨b15, o16, none⟩))) wn (rv_arrPtr Try.underlying60 e16 hl18) rfl hJ) ?_
    refine all_cons (by
      refine ⟨?_, ?_⟩
      ·intro _nm ρ σm hJ hoff hdep
       have e17 := hdep 2 rfl rfl 17 rfl
       obtain ⟨H, m⟩ := id hJ
       replace hc17 := (Hs.ro 0 rfl).arr_md hc17 m
       exact dp_v (v := (.agg (List.map I (List.take 4 a_1)).toArray)) wn (rv_load (cs := List.map I (List.take 4 a_1)) Try.underlying60 rfl ti60 e17 (by rw [List.length_map, List.length_take]; have := hl18; omega) (arr_take hc17)) rfl hJ
      trivial) ?_
    refine ac rfl (by
      intro k _nm ρ σm hJ hoff hdep
      have e2 := look_off (N := 24) (hoff 2 rfl) rfl
      exact dp_v (v := (Sl (some ⟨b22, o23, none⟩) b_2 cb_2)) wn (rv_move e2) rfl hJ) ?_
    refine ac rfl (by
      intro k _nm ρ σm hJ hoff hdep
      have e19 := hdep 4 rfl rfl 19 rfl
      exact dp_v (v := (.pointer (some ⟨b22, o23, none⟩))) wn (rv_arrPtr Try.underlying60 e19 hl25) rfl hJ) ?_
    refine all_cons (by
      refine ⟨?_, ?_⟩
      ·intro _nm ρ σm hJ hoff hdep
       have e20 := hdep 5 rfl rfl 20 rfl
       obtain ⟨H, m⟩ := id hJ
       replace hc24 := (Hs.ro 1 rfl).arr_md hc24 m
       exact dp_v (v := (.agg (List.map I (List.take 4 b_2)).toArray)) wn (rv_load (cs := List.map I (List.take 4 b_2)) Try.underlying60 rfl ti60 e20 (by rw [List.length_map, List.length_take]; have := hl25; omega) (arr_take hc24)) rfl hJ
      trivial) ?_
    refine all_cons (by
      refine ⟨?_, ?_⟩
      ·intro _nm ρ σm hJ hoff hdep
       have e18 : look 24 ρ 18 = (.agg (List.map I (List.take 4 a_1)).toArray) := hdep 3 rfl rfl 18 rfl
       have e21 : look 24 ρ 21 = (.agg (List.map I (List.take 4 b_2)).toArray) := hdep 6 rfl rfl 21 rfl
       obtain ⟨H, m⟩ := id hJ
       refine dp_cx wn (cx_call hc29 (ent_f hc29.fn (by show [look 24 ρ 18, look 24 ρ 21] = _; rw [e18, e21])) hn0 (show Hp S0 σ0 _ ([] ++ [Ch.ro 0 (Sl (some ⟨b15, o16, none⟩) a_1 ca_1) a_1, Ch.ro 0 (Sl (some ⟨b22, o23, none⟩) b_2 cb_2) b_2]) from (H.sel' [0, 1] rfl rfl))) ?_
       rintro _ σq ⟨_, ⟨rfl, rfl, hl30⟩, H2, m2⟩
       exact ⟨_, (), rfl, rfl, ⟨H2.sel' [0, 1] rfl rfl, m.comp0 m2, hl30⟩, stab [0, 1, 2, 3, 4, 5, 6] (by kernel_rfl) ⟨rfl, rfl, rfl, rfl, rfl, rfl, rfl, trivial⟩⟩
      trivial) ?_
    exact all_nil
   ·intro _nm ρ σ31 hJ hoff hrel
    have e15 := hrel 0 rfl 15 rfl
    have e22 := hrel 7 rfl 22 rfl
    obtain ⟨H, -, hl30⟩ := (show Hp S0 σ0 σ31 [Ch.ro 0 (Sl (some ⟨b15, o16, none⟩) a_1 ca_1) a_1, Ch.ro 0 (Sl (some ⟨b22, o23, none⟩) b_2 cb_2) b_2] ∧ Md (cov []) σ11 σ31 ∧ r27.length = 4 from hJ)
    clear hJ Hs
    rw [fr_lookL (L := [(15, (I kind_0)), (22, (.agg (List.map I r27).toArray))]) ⟨e15, e22, trivial⟩]
    clear hoff hrel e15 e22
    obtain ⟨r32, hx33, h'⟩ := bind_some h
    clear h
    have h := h'; clear h'
    have hc34 := c_impl_distanceOf hl30 hx33
    refine st_call (cx_call hc34 (ent_f hc34.fn rfl) hn0 (show Hp S0 σ0 _ ([] ++ [Ch.ro 0 (Sl (some ⟨b15, o16, none⟩) a_1 ca_1) a_1, Ch.ro 0 (Sl (some ⟨b22, o23, none⟩) b_2 cb_2) b_2]) from (H.sel' [0, 1] rfl rfl))) wn ?_
    rintro _ σ35 ⟨_, ⟨rfl, rfl⟩, H, -⟩
    replace H : Hp S0 σ0 σ35 [Ch.ro 0 (Sl (some ⟨b15, o16, none⟩) a_1 ca_1) a_1, Ch.ro 0 (Sl (some ⟨b22, o23, none⟩) b_2 cb_2) b_2] := H
    refine st (v := (I r32)) (rv_assign rfl) ?_
    refine w_end ?_
    refine q_then ?_
    refine c_ret ?_
    obtain rfl := Option.some.inj h
    exact fin_ret (v := (I r32)) (results_ok Try.results19 (res_tmp (v := (I r32)) rfl res_nil) rfl) ⟨rfl, rfl⟩ (H.sel' [] rfl rfl)

theorem c_slices_Grow_int_int {s_0 : List Int} {n_1 : Int} {as_0 : Option Addr} {cs_0 : Nat} (hts_0 : cs_0 = s_0.length) {r : (List Int)} (h : M.slices_Grow_int_int s_0 n_1 = some r) :
    Cal2 Try.prog 71 [(Sl as_0 s_0 cs_0), (I n_1)] [Ch.own 0 0 (Sl as_0 s_0 cs_0) s_0] (fun n0 v L => ∃ (az1 : Option Addr), ∃ (cz2 : Nat), v = (Sl az1 r cz2) ∧ L = [Ch.own 0 n0 (Sl az1 r cz2) r]) := by
 refine cal2 (n := 27) Try.func71 rfl rfl rfl rfl ?_
 intro S0 σ0 n0 hn0 H
 unfold M.slices_Grow_int_int at h
 refine c_seq ?_
 refine rg ?_
 refine st (v := (.slice none 0 0)) (rv_assign rfl) ?_
 refine w_end ?_
 refine q_then ?_
 refine c_seq ?_
 refine c_seq ?_
 refine rg ?_
 refine st (v := (I n_1)) (rv_move rfl) ?_
 refine st (v := (B (decide (n_1 < 0)))) (rv_lss (a := n_1) (b := 0) rfl rfl) ?_
 refine w_end ?_
 refine q_then ?_
 refine cd_cond (decide (n_1 < 0)) rfl (fun hb1 => ?_) (fun hb1 => ?_)
 ·replace h := bif_t hb1 h
  refine rg ?_
  refine st (v := (.iface 9 (.string ⟨#[99, 97, 110, 110, 111, 116, 32, 98, 101, 32, 110, 101, 103, 97, 116, 105, 118, 101]⟩))) (rv_makeInterface Try.underlying9 rfl rfl) ?_
  cases h
 ·replace h := bif_f hb1 h
  refine c_skip ?_
  refine q_then ?_
  refine c_seq ?_
  refine c_seq ?_
  refine rg ?_
  refine st (v := (I n_1)) (rv_move rfl) ?_
  refine st (v := (Sl as_0 s_0 cs_0)) (rv_move rfl) ?_
  refine st (v := (I (s_0.length : Int))) (rv_cap Try.underlying29 rfl hts_0) ?_
  refine st (v := (Sl as_0 s_0 cs_0)) (rv_move rfl) ?_
  refine st (v := (I (s_0.length : Int))) (rv_len Try.underlying29 rfl) ?_
  refine st (v := (I (w64 ((s_0.length : Int) - (s_0.length : Int))))) (rv_sub (a := (s_0.length : Int)) (b := (s_0.length : Int)) rfl rfl) ?_
  refine st (v := (I (w64 (n_1 - (w64 ((s_0.length : Int) - (s_0.length : Int))))))) (rv_sub (a := n_1) (b := (w64 ((s_0.length : Int) - (s_0.length : Int)))) rfl rfl) ?_
  refine st (v := (I (w64 (n_1 - (w64 ((s_0.length : Int) - (s_0.length : Int))))))) (rv_assign rfl) ?_
  refine w_end ?_
  refine q_then ?_
  refine c_seq ?_
  refine rg ?_
  refine st (v := (I (w64 (n_1 - (w64 ((s_0.length : Int) - (s_0.length : Int))))))) (rv_move rfl) ?_
  refine st (v := (B (decide (0 < (w64 (n_1 - (w64 ((s_0.length : Int) - (s_0.length : Int))))))))) (rv_gtr (a := (w64 (n_1 - (w64 ((s_0.length : Int) - (s_0.length : Int)))))) (b := 0) rfl rfl) ?_
  refine w_end ?_
  refine q_then ?_
  obtain ⟨o2, hj, h'⟩ := bind_some h
  clear h
  refine c_cut (fun e a w => e = .normal ∧ ∃ (ρ : Nat → Value) (σ : St) (aj1 : Option Addr) (cj2 : Nat), a = fr 27 (updL ρ [(0, (Sl aj1 o2 cj2))]) ∧ w = σ.w ∧ Hp S0 σ0 σ [Ch.own 0 0 (Sl aj1 o2 cj2) o2]) ?_ ?_
  ·clear h'
   rename _ = some o2 => h
   refine cd_cond (decide (0 < (w64 (n_1 - (w64 ((s_0.length : Int) - (s_0.length : Int))))))) rfl (fun hb3 => ?_) (fun hb3 => ?_)
   ·replace h := bif_t hb3 h
    refine rg ?_
    refine st (v := (Sl as_0 s_0 cs_0)) (rv_move rfl) ?_
    refine st (v := (Sl as_0 s_0 cs_0)) (rv_move rfl) ?_
    refine st (v := (I (s_0.length : Int))) (rv_cap Try.underlying29 rfl hts_0) ?_
    obtain ⟨xs4, hx5, h'⟩ := bind_some h
    clear h
    have h := h'; clear h'
    obtain ⟨a6, c7, hs8, -⟩ := (H.own 0 rfl).slice hx5
    refine st (v := (Sl a6 xs4 c7)) (rv_slice_h Try.underlying29 ti3 hs8 rfl rfl) ?_
    refine st (v := (I (w64 (n_1 - (w64 ((s_0.length : Int) - (s_0.length : Int))))))) (rv_move rfl) ?_
    obtain ⟨xs10, hx11, h'⟩ := bind_some h
    clear h
    have h := h'; clear h'
    refine st_ex (ex_appZ (z0 := (0 : Int)) (zs := [(I 0)]) H (i := 0) rfl Try.underlying29 Try.underlying3 ti3 rfl rfl rfl (by decide) hts_0 hx5 hs8 hx11 (app_new0 (by have := gslice_some hx5; omega) hb3) hn0 rfl rfl) wn ?_
    rintro _ σ14 ⟨b12, c13, rfl, H, -⟩
    refine st (v := (Sl as_0 s_0 cs_0)) (rv_move rfl) ?_
    refine st (v := (I (s_0.length : Int))) (rv_len Try.underlying29 rfl) ?_
    obtain ⟨xs15, hx16, h'⟩ := bind_some h
    clear h
    have h := h'; clear h'
    obtain ⟨a17, c18, hs19, hR20, hb21⟩ := (H.own 0 rfl).slice hx16
    replace H := (H.front (i := 0) rfl).turn (d := Ch.own n0 0 (Sl a17 xs15 c18) xs15) (fun _ => hR20) hb21; clear hR20 hb21
    refine st (v := (Sl a17 xs15 c18)) (rv_slice_h Try.underlying29 ti3 hs19 rfl rfl) ?_
    refine st (v := (Sl a17 xs15 c18)) (rv_assign rfl) ?_
    refine w_end ?_
    replace H := H.ownSc 0 0 0 rfl (Nat.zero_le _)
    obtain rfl := Option.some.inj h
    exact ⟨rfl, _, σ14, a17, c18, fr_join ⟨rfl, trivial⟩, rfl, H.sel' [0] rfl rfl⟩
   ·replace h := bif_f hb3 h
    refine c_skip ?_
    obtain rfl := Option.some.inj h
    exact ⟨rfl, _, σ0, as_0, cs_0, fr_join ⟨rfl, trivial⟩, rfl, H.sel' [0] rfl rfl⟩
  ·clear hj
   have h := h'
   clear h' H
   rintro e a w ⟨rfl, ρ, σ22, a23, c24, rfl, rfl, H⟩
   refine q_then ?_
   refine c_seq ?_
   refine rg ?_
   refine st (v := (Sl a23 o2 c24)) (rv_move rfl) ?_
   refine st (v := (Sl a23 o2 c24)) (rv_assign rfl) ?_
   refine w_end ?_
   refine q_then ?_
   refine c_ret ?_
   replace H := H.ownSc 0 0 n0 rfl (Nat.le_refl _)
   obtain rfl := Option.some.inj h
   exact fin_ret (v := (Sl a23 o2 c24)) (results_ok Try.results71 (res_tmp (v := (Sl a23 o2 c24)) rfl res_nil) rfl) ⟨a23, c24, rfl, rfl⟩ (H.sel' [0] rfl rfl)

theorem c_slices_Concat_int_int {slices_0 : List (List Int)} {aslices_0 : Option Addr} {cslices_0 : Nat} {r : (List Int)} (h : M.slices_Concat_int_int slices_0 = some r) :
    Cal2 Try.prog 49 [(Sl aslices_0 slices_0 cslices_0)] [Ch.ro 0 (Sl aslices_0 slices_0 cslices_0) slices_0] (fun n0 v L => ∃ (az1 : Option Addr), ∃ (cz2 : Nat), v = (Sl az1 r cz2) ∧ L = [Ch.own 0 n0 (Sl az1 r cz2) r]) := by
 refine cal2 (n := 36) Try.func49 rfl rfl rfl rfl ?_
 intro S0 σ0 n0 hn0 H
 unfold M.slices_Concat_int_int at h
 refine c_seq ?_
 refine rg ?_
 refine st (v := (.slice none 0 0)) (rv_assign rfl) ?_
 refine w_end ?_
 refine q_then ?_
 refine c_seq ?_
 refine rg ?_
 refine st (v := (I 0)) (rv_assign rfl) ?_
 refine w_end ?_
 refine q_then ?_
 refine c_seq ?_
 refine c_seq ?_
 refine rg ?_
 refine st (v := (Sl aslices_0 slices_0 cslices_0)) (rv_move rfl) ?_
 refine st (v := (I (slices_0.length : Int))) (rv_len Try.underlying23 rfl) ?_
 refine st (v := (I 0)) (rv_move rfl) ?_
 refine w_end ?_
 refine q_then ?_
 obtain ⟨o1, hj, h'⟩ := bind_some h
 clear h
 refine c_cut (fun e a w => e = .normal ∧ ∃ (ρ : Nat → Value) (σ : St), a = fr 36 (updL ρ [(0, (Sl aslices_0 slices_0 cslices_0)), (3, (I o1))]) ∧ w = σ.w ∧ Hp S0 σ0 σ [Ch.ro 0 (Sl aslices_0 slices_0 cslices_0) slices_0]) ?_ ?_
 ·clear h'
  rename _ = some o1 => h
  refine c_blk ?_
  refine wp_loopM _ h (fun s2 a w => ∃ (ρ : Nat → Value) (σ : St), a = fr 36 (updL ρ [(0, (Sl aslices_0 slices_0 cslices_0)), (3, (I s2.1)), (9, (Sl aslices_0 slices_0 cslices_0)), (10, (I (slices_0.length : Int))), (11, (I s2.2))]) ∧ w = σ.w ∧ Hp S0 σ0 σ [Ch.ro 0 (Sl aslices_0 slices_0 cslices_0) slices_0]) ⟨_, σ0, fr_join ⟨rfl, rfl, rfl, rfl, rfl, trivial⟩, rfl, H.sel' [0] rfl rfl⟩ ?_
  clear h H
  rintro s2 a w o ⟨ρ, σ3, rfl, rfl, H⟩ h hres
  refine c_seq ?_
  refine rg ?_
  refine st (v := (B (decide (s2.2 < (slices_0.length : Int))))) (rv_lss (a := s2.2) (b := (slices_0.length : Int)) rfl rfl) ?_
  refine w_end ?_
  refine q_then ?_
  refine c_seq ?_
  refine cd_cond (decide (s2.2 < (slices_0.length : Int))) rfl (fun hb4 => ?_) (fun hb4 => ?_)
  ·replace h := bif_t hb4 h
   refine c_skip ?_
   refine q_then ?_
   refine c_seq ?_
   refine c_blk ?_
   refine c_seq ?_
   refine rg ?_
   obtain ⟨x5, hx6, h'⟩ := bind_some h
   clear h
   have h := h'; clear h'
   obtain ⟨b8, o9, hi7, -⟩ := (H.ro 0 rfl).ix hx6
   refine st (v := (pt b8 o9)) (rv_ix Try.underlying23 ti29 rfl rfl hi7) ?_
   obtain ⟨v13, hc14, hR12⟩ := ((H.ro 0 rfl).at hx6 hi7).slice
   obtain ⟨a10, c11, rfl⟩ := hR12.isSl
   replace H := H.add (d := Ch.ro 0 (Sl a10 x5 c11) x5) hR12 (fun _ h => h)
   clear hR12
   refine st (v := (Sl a10 x5 c11)) (rv_load1 Try.underlying29 rfl rfl hc14) ?_
   refine st (v := (Sl a10 x5 c11)) (rv_assign rfl) ?_
   refine w_end ?_
   refine q_then ?_
   refine c_seq ?_
   refine rg ?_
   refine st (v := (I s2.1)) (rv_move rfl) ?_
   refine st (v := (Sl a10 x5 c11)) (rv_move rfl) ?_
   refine st (v := (I (x5.length : Int))) (rv_len Try.underlying29 rfl) ?_
   refine st (v := (I (w64 (s2.1 + (x5.length : Int))))) (rv_add (a := s2.1) (b := (x5.length : Int)) rfl rfl) ?_
   refine st (v := (I (w64 (s2.1 + (x5.length : Int))))) (rv_assign rfl) ?_
   refine w_end ?_
   refine q_then ?_
   refine c_seq ?_
   refine rg ?_
   refine st (v := (I (w64 (s2.1 + (x5.length : Int))))) (rv_move rfl) ?_
   refine st (v := (B (decide ((w64 (s2.1 + (x5.length : Int))) < 0)))) (rv_lss (a := (w64 (s2.1 + (x5.length : Int)))) (b := 0) rfl rfl) ?_
   refine w_end ?_
   refine q_then ?_
   refine cd_cond (decide ((w64 (s2.1 + (x5.length : Int))) < 0)) rfl (fun hb15 => ?_) (fun hb15 => ?_)
   ·replace h := bif_t hb15 h
    refine rg ?_
    refine st (v := (.iface 9 (.string ⟨#[108, 101, 110, 32, 111, 117, 116, 32, 111, 102, 32, 114, 97, 110, 103, 101]⟩))) (rv_makeInterface Try.underlying9 rfl rfl) ?_
    cases h
   ·replace h := bif_f hb15 h
    refine c_skip ?_
    refine q_blk ?_
    refine q_then ?_
    refine rg ?_
    refine st (v := (I (w64 (s2.2 + 1)))) (rv_add (a := s2.2) (b := 1) rfl rfl) ?_
    refine st (v := (I (w64 (s2.2 + 1)))) (rv_move rfl) ?_
    refine w_end ?_
    refine q_then ?_
    obtain rfl := Option.some.inj h
    exact ⟨_, rfl, _, σ3, fr_join ⟨rfl, rfl, rfl, rfl, rfl, trivial⟩, rfl, H.sel' [1] rfl rfl⟩
  ·replace h := bif_f hb4 h
   refine c_exit ?_
   refine q_then_x ?_
   refine q_then_x ?_
   refine q_blk_hit ?_
   obtain rfl := Option.some.inj h
   obtain rfl := hres _ rfl
   exact ⟨rfl, _, σ3, fr_join ⟨rfl, rfl, trivial⟩, rfl, H.sel' [0] rfl rfl⟩
 ·clear hj
  have h := h'
  clear h' H
  rintro e a w ⟨rfl, ρ, σ16, rfl, rfl, H⟩
  refine q_then ?_
  refine c_seq ?_
  refine rg ?_
  refine st (v := (I o1)) (rv_move rfl) ?_
  replace H := H.nilOwn Int 0 0
  obtain ⟨r17, hx18, h'⟩ := bind_some h
  clear h
  have h := h'; clear h'
  have hc19 := c_slices_Grow_int_int (as_0 := none) (cs_0 := 0) (hts_0 := rfl) hx18
  refine st_call (cx_call hc19 (ent_f hc19.fn rfl) hn0 (show Hp S0 σ0 _ ([Ch.own 0 0 (Sl none ([] : List Int) 0) ([] : List Int)] ++ [Ch.ro 0 (Sl aslices_0 slices_0 cslices_0) slices_0]) from (H.sel' [0, 1] rfl rfl))) wn ?_
  rintro _ σ22 ⟨_, ⟨a20, c21, rfl, rfl⟩, H, -⟩
  replace H : Hp S0 σ0 σ22 [Ch.own 0 n0 (Sl a20 r17 c21) r17, Ch.ro 0 (Sl aslices_0 slices_0 cslices_0) slices_0] := H
  refine st (v := (Sl a20 r17 c21)) (rv_assign rfl) ?_
  refine w_end ?_
  refine q_then ?_
  refine c_seq ?_
  refine c_seq ?_
  refine rg ?_
  refine st (v := (Sl aslices_0 slices_0 cslices_0)) (rv_move rfl) ?_
  refine st (v := (I (slices_0.length : Int))) (rv_len Try.underlying23 rfl) ?_
  refine st (v := (I 0)) (rv_move rfl) ?_
  refine w_end ?_
  refine q_then ?_
  obtain ⟨o23, hj, h'⟩ := bind_some h
  clear h
  refine c_cut (fun e a w => e = .normal ∧ ∃ (ρ : Nat → Value) (σ : St) (aj1 : Option Addr) (cj2 : Nat), a = fr 36 (updL ρ [(6, (Sl aj1 o23 cj2))]) ∧ w = σ.w ∧ Hp S0 σ0 σ [Ch.own 0 n0 (Sl aj1 o23 cj2) o23]) ?_ ?_
  ·clear h'
   rename _ = some o23 => h
   refine c_blk ?_
   refine wp_loopM _ h (fun s24 a w => ∃ (ρ : Nat → Value) (σ : St) (aj1 : Option Addr) (cj2 : Nat), a = fr 36 (updL ρ [(6, (Sl aj1 s24.1 cj2)), (25, (Sl aslices_0 slices_0 cslices_0)), (26, (I (slices_0.length : Int))), (27, (I s24.2))]) ∧ w = σ.w ∧ Hp S0 σ0 σ [Ch.own 0 n0 (Sl aj1 s24.1 cj2) s24.1, Ch.ro 0 (Sl aslices_0 slices_0 cslices_0) slices_0]) ⟨_, σ22, a20, c21, fr_join ⟨rfl, rfl, rfl, rfl, trivial⟩, rfl, H.sel' [0, 1] rfl rfl⟩ ?_
   clear h H
   rintro s24 a w o ⟨ρ, σ25, a26, c27, rfl, rfl, H⟩ h hres
   refine c_seq ?_
   refine rg ?_
   refine st (v := (B (decide (s24.2 < (slices_0.length : Int))))) (rv_lss (a := s24.2) (b := (slices_0.length : Int)) rfl rfl) ?_
   refine w_end ?_
   refine q_then ?_
   refine c_seq ?_
   refine cd_cond (decide (s24.2 < (slices_0.length : Int))) rfl (fun hb28 => ?_) (fun hb28 => ?_)
   ·replace h := bif_t hb28 h
    refine c_skip ?_
    refine q_then ?_
    refine c_seq ?_
    refine c_blk ?_
    refine c_seq ?_
    refine rg ?_
    obtain ⟨x29, hx30, h'⟩ := bind_some h
    clear h
    have h := h'; clear h'
    obtain ⟨b32, o33, hi31, -⟩ := (H.ro 1 rfl).ix hx30
    refine st (v := (pt b32 o33)) (rv_ix Try.underlying23 ti29 rfl rfl hi31) ?_
    obtain ⟨v37, hc38, hR36⟩ := ((H.ro 1 rfl).at hx30 hi31).slice
    obtain ⟨a34, c35, rfl⟩ := hR36.isSl
    replace H := H.add (d := Ch.ro 0 (Sl a34 x29 c35) x29) hR36 (fun _ h => h)
    clear hR36
    refine st (v := (Sl a34 x29 c35)) (rv_load1 Try.underlying29 rfl rfl hc38) ?_
    refine st (v := (Sl a34 x29 c35)) (rv_assign rfl) ?_
    refine w_end ?_
    refine q_then ?_
    refine rg ?_
    refine st (v := (Sl a26 s24.1 c27)) (rv_move rfl) ?_
    refine st (v := (Sl a34 x29 c35)) (rv_move rfl) ?_
    obtain ⟨xs39, hx40, h'⟩ := bind_some h
    clear h
    have h := h'; clear h'
    refine st_ex (ex_append H (i := 1) rfl Try.underlying29 Try.underlying29 ti3 rfl rfl (by decide) ((H.ro 0 rfl).rd.sc) hx40 (Nat.zero_le _) rfl rfl) wn ?_
    rintro _ σ43 ⟨a41, c42, rfl, H, -⟩
    refine st (v := (Sl a41 xs39 c42)) (rv_assign rfl) ?_
    refine w_end ?_
    refine q_blk ?_
    refine q_then ?_
    refine rg ?_
    refine st (v := (I (w64 (s24.2 + 1)))) (rv_add (a := s24.2) (b := 1) rfl rfl) ?_
    refine st (v := (I (w64 (s24.2 + 1)))) (rv_move rfl) ?_
    refine w_end ?_
    refine q_then ?_
    obtain rfl := Option.some.inj h
    exact ⟨_, rfl, _, σ43, a41, c42, fr_join ⟨rfl, rfl, rfl, rfl, trivial⟩, rfl, H.sel' [0, 2] rfl rfl⟩
   ·replace h := bif_f hb28 h
    refine c_exit ?_
    refine q_then_x ?_
    refine q_then_x ?_
    refine q_blk_hit ?_
    obtain rfl := Option.some.inj h
    obtain rfl := hres _ rfl
    exact ⟨rfl, _, σ25, a26, c27, fr_join ⟨rfl, trivial⟩, rfl, H.sel' [0] rfl rfl⟩
  ·clear hj
   have h := h'
   clear h' H
   rintro e a w ⟨rfl, ρ, σ44, a45, c46, rfl, rfl, H⟩
   refine q_then ?_
   refine c_seq ?_
   refine rg ?_
   refine st (v := (Sl a45 o23 c46)) (rv_move rfl) ?_
   refine st (v := (Sl a45 o23 c46)) (rv_assign rfl) ?_
   refine w_end ?_
   refine q_then ?_
   refine c_ret ?_
   obtain rfl := Option.some.inj h
   exact fin_ret (v := (Sl a45 o23 c46)) (results_ok Try.results49 (res_tmp (v := (Sl a45 o23 c46)) rfl res_nil) rfl) ⟨a45, c46, rfl, rfl⟩ (H.sel' [0] rfl rfl)

theorem c_impl_DecodeVector {b_0 : (List (List Int)) × (List (List Int))} {code_1 : Int} {ab_0_0 : Option Addr} {cb_0_0 : Nat} {ab_0_1 : Option Addr} {cb_0_1 : Nat} {r : (List Int)} (h : M.impl_DecodeVector b_0 code_1 = some r) :
    Cal2 Try.prog 20 [(.agg #[(Sl ab_0_0 b_0.1 cb_0_0), (Sl ab_0_1 b_0.2 cb_0_1)]), (I code_1)] [Ch.ro 0 (Sl ab_0_0 b_0.1 cb_0_0) b_0.1, Ch.ro 0 (Sl ab_0_1 b_0.2 cb_0_1) b_0.2] (fun n0 v L => ∃ (az1 : Option Addr), ∃ (cz2 : Nat), v = (Sl az1 r cz2) ∧ L = [Ch.own 0 n0 (Sl az1 r cz2) r]) := by
 refine cal2 (n := 30) Try.func20 rfl rfl rfl rfl ?_
 intro S0 σ0 n0 hn0 H
 unfold M.impl_DecodeVector at h
 refine c_seq ?_
 refine rg ?_
 refine st_ex (ex_box (cs := [(Sl ab_0_0 b_0.1 cb_0_0), (Sl ab_0_1 b_0.2 cb_0_1)]) H hn0 rfl rfl) wn ?_
 rintro _ σ2 ⟨b1, rfl, H, -⟩
 refine st (v := (.slice none 0 0)) (rv_assign rfl) ?_
 refine w_end ?_
 refine q_then ?_
 refine c_seq ?_
 refine c_seq ?_
 obtain ⟨o3, hj, h'⟩ := bind_some h
 clear h
 refine c_cut (fun e a w => e = .normal ∧ ∃ (ρ : Nat → Value) (σ : St), a = fr 30 (updL ρ [(1, (I code_1)), (2, (pt b1 0)), (15, (B o3))]) ∧ w = σ.w ∧ Hp S0 σ0 σ [Ch.ro 0 (Sl ab_0_0 b_0.1 cb_0_0) b_0.1, Ch.ro 0 (Sl ab_0_1 b_0.2 cb_0_1) b_0.2, Ch.bx n0 b1 0 [(Sl ab_0_0 b_0.1 cb_0_0), (Sl ab_0_1 b_0.2 cb_0_1)] [] []]) ?_ ?_
 ·clear h'
  rename _ = some o3 => h
  refine rg ?_
  have hc4 := H.cells 0 rfl
  refine st (v := (.agg #[(Sl ab_0_0 b_0.1 cb_0_0), (Sl ab_0_1 b_0.2 cb_0_1)])) (rv_load (cs := [(Sl ab_0_0 b_0.1 cb_0_0), (Sl ab_0_1 b_0.2 cb_0_1)]) Try.underlying25 rfl ti25 rfl rfl hc4) ?_
  obtain ⟨r5, hx6, h'⟩ := bind_some h
  clear h
  have h := h'; clear h'
  have hc7 := c_impl_ValidBook (ab_0_0 := ab_0_0) (cb_0_0 := cb_0_0) (ab_0_1 := ab_0_1) (cb_0_1 := cb_0_1) hx6
  refine st_call (cx_call hc7 (ent_f hc7.fn rfl) hn0 (show Hp S0 σ0 _ ([Ch.ro 0 (Sl ab_0_0 b_0.1 cb_0_0) b_0.1, Ch.ro 0 (Sl ab_0_1 b_0.2 cb_0_1) b_0.2] ++ [Ch.bx n0 b1 0 [(Sl ab_0_0 b_0.1 cb_0_0), (Sl ab_0_1 b_0.2 cb_0_1)] [] [], Ch.ro 0 (Sl ab_0_0 b_0.1 cb_0_0) b_0.1, Ch.ro 0 (Sl ab_0_1 b_0.2 cb_0_1) b_0.2]) from (H.sel' [1, 2, 0, 1, 2] rfl rfl))) wn ?_
  rintro _ σ8 ⟨_, ⟨rfl, rfl⟩, H, -⟩
  replace H : Hp S0 σ0 σ8 [Ch.bx n0 b1 0 [(Sl ab_0_0 b_0.1 cb_0_0), (Sl ab_0_1 b_0.2 cb_0_1)] [] [], Ch.ro 0 (Sl ab_0_0 b_0.1 cb_0_0) b_0.1, Ch.ro 0 (Sl ab_0_1 b_0.2 cb_0_1) b_0.2] := H
  refine st (v := (B (!r5))) (rv_not rfl) ?_
  refine st (v := (B (!r5))) (rv_move rfl) ?_
  rcases Bool.eq_false_or_eq_true (!r5) with hb9 | hb9
  ·replace h := bif_t hb9 h
   refine st_skip (congrArg some hb9) ?_
   refine st_skip (congrArg some hb9) ?_
   refine st (v := (B true)) (rv_pick_t (congrArg B hb9) rfl) ?_
   refine st (v := (B true)) (rv_move rfl) ?_
   refine st_skip rfl ?_
   refine st_skip rfl ?_
   refine st (v := (B true)) (rv_pick_t rfl rfl) ?_
   refine w_end ?_
   obtain rfl := Option.some.inj h
   exact ⟨rfl, _, σ8, fr_join ⟨rfl, rfl, rfl, trivial⟩, rfl, H.sel' [1, 2, 0] rfl rfl⟩
  ·replace h := bif_f hb9 h
   refine st_g (v := (I code_1)) (congrArg some hb9) (rv_move rfl) ?_
   refine st_g (v := (B (decide (code_1 < 0)))) (congrArg some hb9) (rv_lss (a := code_1) (b := 0) rfl rfl) ?_
   refine st (v := (B (decide (code_1 < 0)))) (rv_pick_f (congrArg B hb9) rfl) ?_
   refine st (v := (B (decide (code_1 < 0)))) (rv_move rfl) ?_
   rcases Bool.eq_false_or_eq_true (decide (code_1 < 0)) with hb10 | hb10
   ·replace h := bif_t hb10 h
    refine st_skip (congrArg some hb10) ?_
    refine st_skip (congrArg some hb10) ?_
    refine st (v := (B true)) (rv_pick_t (congrArg B hb10) rfl) ?_
    refine w_end ?_
    obtain rfl := Option.some.inj h
    exact ⟨rfl, _, σ8, fr_join ⟨rfl, rfl, rfl, trivial⟩, rfl, H.sel' [1, 2, 0] rfl rfl⟩
   ·replace h := bif_f hb10 h
    refine st_g (v := (I code_1)) (congrArg some hb10) (rv_move rfl) ?_
    refine st_g (v := (B (decide (16 ≤ code_1)))) (congrArg some hb10) (rv_geq (a := code_1) (b := 16) rfl rfl) ?_
    refine st (v := (B (decide (16 ≤ code_1)))) (rv_pick_f (congrArg B hb10) rfl) ?_
    refine w_end ?_
    obtain rfl := Option.some.inj h
    exact ⟨rfl, _, σ8, fr_join ⟨rfl, rfl, rfl, trivial⟩, rfl, H.sel' [1, 2, 0] rfl rfl⟩
 ·clear hj
  have h := h'
  clear h' H
  rintro e a w ⟨rfl, ρ, σ11, rfl, rfl, H⟩
  refine q_then ?_
  refine cd_cond o3 rfl (fun hb12 => ?_) (fun hb12 => ?_)
  ·replace h := bif_t hb12 h
   refine c_seq ?_
   refine rg ?_
   refine st (v := (.slice none 0 0)) (rv_assign rfl) ?_
   refine w_end ?_
   refine q_then ?_
   refine c_ret ?_
   refine q_then_r ?_
   replace H := H.nilOwn Int 0 n0
   obtain rfl := Option.some.inj h
   exact fin_ret (v := (.slice none 0 0)) (results_ok Try.results20 (res_tmp (v := (.slice none 0 0)) rfl res_nil) rfl) ⟨none, 0, rfl, rfl⟩ (H.sel' [0] rfl rfl)
  ·replace h := bif_f hb12 h
   refine c_skip ?_
   refine q_then ?_
   refine c_seq ?_
   refine rgP (σ := σ11) 12 (by kernel_rfl) (by kernel_rfl) (by kernel_rfl) ?_
   refine sq (v := (pt b1 0)) (rv_fieldAddr (off := 0) (ft := 23) Try.underlying25 rfl ti23 rfl rfl) ?_
   have hc13 := H.cell (u := (Sl ab_0_0 b_0.1 cb_0_0)) (o' := 0) 2 0 rfl rfl rfl
   refine sq (v := (Sl ab_0_0 b_0.1 cb_0_0)) (rv_load1 Try.underlying23 rfl rfl hc13) ?_
   refine sq (v := (I code_1)) (rv_move rfl) ?_
   refine sq (v := (I (w64 (code_1.tdiv 4)))) (rv_quo (a := code_1) (b := 4) rfl rfl (by decide)) ?_
   obtain ⟨x14, hx15, h'⟩ := bind_some h
   clear h
   have h := h'; clear h'
   obtain ⟨b17, o18, hi16, -⟩ := (H.ro 0 rfl).ix hx15
   refine sq (v := (pt b17 o18)) (rv_ix Try.underlying23 ti29 rfl rfl hi16) ?_
   obtain ⟨v22, hc23, hR21⟩ := ((H.ro 0 rfl).at hx15 hi16).slice
   obtain ⟨a19, c20, rfl⟩ := hR21.isSl
   replace H := H.add (d := Ch.ro 0 (Sl a19 x14 c20) x14) hR21 (fun _ h => h)
   clear hR21
   refine sq (v := (Sl a19 x14 c20)) (rv_load1 Try.underlying29 rfl rfl hc23) ?_
   refine sq (v := (pt b1 1)) (rv_fieldAddr (off := 1) (ft := 23) Try.underlying25 rfl ti23 rfl rfl) ?_
   have hc24 := H.cell (u := (Sl ab_0_1 b_0.2 cb_0_1)) (o' := 1) 3 1 rfl rfl rfl
   refine sq (v := (Sl ab_0_1 b_0.2 cb_0_1)) (rv_load1 Try.underlying23 rfl rfl hc24) ?_
   refine sq (v := (I code_1)) (rv_move rfl) ?_
   refine sq (v := (I (code_1.tmod 4))) (rv_rem (a := code_1) (b := 4) rfl rfl (by decide)) ?_
   obtain ⟨x25, hx26, h'⟩ := bind_some h
   clear h
   have h := h'; clear h'
   obtain ⟨b28, o29, hi27, -⟩ := (H.ro 2 rfl).ix hx26
   refine sq (v := (pt b28 o29)) (rv_ix Try.underlying23 ti29 rfl rfl hi27) ?_
   obtain ⟨v33, hc34, hR32⟩ := ((H.ro 2 rfl).at hx26 hi27).slice
   obtain ⟨a30, c31, rfl⟩ := hR32.isSl
   replace H := H.add (d := Ch.ro 0 (Sl a30 x25 c31) x25) hR32 (fun _ h => h)
   clear hR32
   refine sq (v := (Sl a30 x25 c31)) (rv_load1 Try.underlying29 rfl rfl hc34) ?_
   refine sq_end ?_
   intro σ35 hm36
   replace H := H.grow (hm36.mono fun _ h => h); clear hm36
   refine st_ex (ex_buildSlice (el := 0) (xs := ([x14, x25] : List (List Int))) (ps := [(0, (Sl a19 x14 c20)), (1, (Sl a30 x25 c31))]) (cs := [(Sl a19 x14 c20), (Sl a30 x25 c31)]) H hn0 Try.underlying23 ti29 rfl rfl (by kernel_rfl) (.cons (c := [(Sl a19 x14 c20)]) ⟨_, rfl, (H.ro 1 rfl)⟩ (.cons (c := [(Sl a30 x25 c31)]) ⟨_, rfl, (H.ro 0 rfl)⟩ (.nil))) rfl) wn ?_
   rintro _ σ38 ⟨b37, rfl, H, -⟩
   obtain ⟨σ39, hw40, H, -⟩ := H.pub 0 rfl (Nat.zero_le _)
   rw [← hw40]; clear hw40
   obtain ⟨r41, hx42, h'⟩ := bind_some h
   clear h
   have h := h'; clear h'
   have hc43 := c_slices_Concat_int_int (aslices_0 := (some ⟨b37, 0, none⟩)) (cslices_0 := 2) hx42
   refine st_call (cx_call hc43 (ent_f hc43.fn rfl) hn0 (show Hp S0 σ0 _ ([Ch.ro 0 (Sl (some ⟨b37, 0, none⟩) ([x14, x25] : List (List Int)) 2) ([x14, x25] : List (List Int))] ++ [Ch.ro 0 (Sl (some ⟨b37, 0, none⟩) ([x14, x25] : List (List Int)) 2) ([x14, x25] : List (List Int)), Ch.ro 0 (Sl a30 x25 c31) x25, Ch.ro 0 (Sl a19 x14 c20) x14, Ch.ro 0 (Sl ab_0_0 b_0.1 cb_0_0) b_0.1, Ch.ro 0 (Sl ab_0_1 b_0.2 cb_0_1) b_0.2, Ch.bx n0 b1 0 [(Sl ab_0_0 b_0.1 cb_0_0), (Sl ab_0_1 b_0.2 cb_0_1)] [] []]) from (H.sel' [0, 0, 1, 2, 3, 4, 5] rfl rfl))) wn ?_
   rintro _ σ46 ⟨_, ⟨a44, c45, rfl, rfl⟩, H, -⟩
   replace H : Hp S0 σ0 σ46 [Ch.own 0 n0 (Sl a44 r41 c45) r41, Ch.ro 0 (Sl (some ⟨b37, 0, none⟩) ([x14, x25] : List (List Int)) 2) ([x14, x25] : List (List Int)), Ch.ro 0 (Sl a30 x25 c31) x25, Ch.ro 0 (Sl a19 x14 c20) x14, Ch.ro 0 (Sl ab_0_0 b_0.1 cb_0_0) b_0.1, Ch.ro 0 (Sl ab_0_1 b_0.2 cb_0_1) b_0.2, Ch.bx n0 b1 0 [(Sl ab_0_0 b_0.1 cb_0_0), (Sl ab_0_1 b_0.2 cb_0_1)] [] []] := H
   refine st (v := (Sl a44 r41 c45)) (rv_assign rfl) ?_
   refine w_end ?_
   refine q_then ?_
   refine c_ret ?_
   obtain rfl := Option.some.inj h
   exact fin_ret (v := (Sl a44 r41 c45)) (results_ok Try.results20 (res_tmp (v := (Sl a44 r41 c45)) rfl res_nil) rfl) ⟨a44, c45, rfl, rfl⟩ (H.sel' [0] rfl rfl)

theorem c_laws_equalInts {a_0 : List Int} {b_1 : List Int} {aa_0 : Option Addr} {ca_0 : Nat} {ab_1 : Option Addr} {cb_1 : Nat} {r : Bool} (h : M.laws_equalInts a_0 b_1 = some r) :
    Cal2 Try.prog 22 [(Sl aa_0 a_0 ca_0), (Sl ab_1 b_1 cb_1)] [Ch.ro 0 (Sl aa_0 a_0 ca_0) a_0, Ch.ro 0 (Sl ab_1 b_1 cb_1) b_1] (fun n0 v L => v = (B r) ∧ L = []) := by
 refine cal2 (n := 26) Try.func22 rfl rfl rfl rfl ?_
 intro S0 σ0 n0 hn0 H
 unfold M.laws_equalInts at h
 refine c_seq ?_
 refine rg ?_
 refine st (v := (B false)) (rv_assign rfl) ?_
 refine w_end ?_
 refine q_then ?_
 refine c_seq ?_
 refine c_seq ?_
 refine rg ?_
 refine st (v := (Sl aa_0 a_0 ca_0)) (rv_move rfl) ?_
 refine st (v := (I (a_0.length : Int))) (rv_len Try.underlying29 rfl) ?_
 refine st (v := (Sl ab_1 b_1 cb_1)) (rv_move rfl) ?_
 refine st (v := (I (b_1.length : Int))) (rv_len Try.underlying29 rfl) ?_
 refine st (v := (B ((a_0.length : Int) != (b_1.length : Int)))) (rv_neq (a := (a_0.length : Int)) (b := (b_1.length : Int)) rfl rfl) ?_
 refine w_end ?_
 refine q_then ?_
 refine cd_cond ((a_0.length : Int) != (b_1.length : Int)) rfl (fun hb1 => ?_) (fun hb1 => ?_)
 ·replace h := bif_t hb1 h
  refine c_seq ?_
  refine rg ?_
  refine st (v := (B false)) (rv_assign rfl) ?_
  refine w_end ?_
  refine q_then ?_
  refine c_ret ?_
  refine q_then_r ?_
  obtain rfl := Option.some.inj h
  exact fin_ret (v := (B false)) (results_ok Try.results22 (res_tmp (v := (B false)) rfl res_nil) rfl) ⟨rfl, rfl⟩ (H.sel' [] rfl rfl)
 ·replace h := bif_f hb1 h
  refine c_skip ?_
  refine q_then ?_
  refine c_seq ?_
  refine c_seq ?_
  refine rg ?_
  refine st (v := (I 0)) (rv_assign rfl) ?_
  refine w_end ?_
  refine q_then ?_
  obtain ⟨o2, hj, h'⟩ := bind_some h
  clear h
  refine c_cut (fun e a w => (∃ t, o2 = (.inl t) ∧ e = .normal ∧ ∃ (ρ : Nat → Value) (σ : St), a = fr 26 (updL ρ []) ∧ w = σ.w ∧ Hp S0 σ0 σ []) ∨ (∃ t, o2 = (.inr t) ∧ e = .ret ∧ ∃ (ρ : Nat → Value) (σ : St), a = fr 26 (updL ρ [(4, (B t))]) ∧ w = σ.w ∧ Hp S0 σ0 σ [])) ?_ ?_
  ·clear h'
   rename _ = some o2 => h
   refine c_blk ?_
   refine wp_loopM _ h (fun s3 a w => ∃ (ρ : Nat → Value) (σ : St), a = fr 26 (updL ρ [(0, (Sl aa_0 a_0 ca_0)), (1, (Sl ab_1 b_1 cb_1)), (5, (I s3))]) ∧ w = σ.w ∧ Hp S0 σ0 σ [Ch.ro 0 (Sl aa_0 a_0 ca_0) a_0, Ch.ro 0 (Sl ab_1 b_1 cb_1) b_1]) ⟨_, σ0, fr_join ⟨rfl, rfl, rfl, trivial⟩, rfl, H.sel' [0, 1] rfl rfl⟩ ?_
   clear h H
   rintro s3 a w o ⟨ρ, σ4, rfl, rfl, H⟩ h hres
   refine c_seq ?_
   refine c_seq ?_
   refine rg ?_
   refine st (v := (I s3)) (rv_move rfl) ?_
   refine st (v := (Sl aa_0 a_0 ca_0)) (rv_move rfl) ?_
   refine st (v := (I (a_0.length : Int))) (rv_len Try.underlying29 rfl) ?_
   refine st (v := (B (decide (s3 < (a_0.length : Int))))) (rv_lss (a := s3) (b := (a_0.length : Int)) rfl rfl) ?_
   refine w_end ?_
   refine q_then ?_
   refine cd_cond (decide (s3 < (a_0.length : Int))) rfl (fun hb5 => ?_) (fun hb5 => ?_)
   ·replace h := bif_t hb5 h
    refine c_skip ?_
    refine q_then ?_
    refine c_seq ?_
    refine c_blk ?_
    refine c_seq ?_
    refine rgP (σ := σ4) 8 (by kernel_rfl) (by kernel_rfl) (by kernel_rfl) ?_
    refine sq (v := (Sl aa_0 a_0 ca_0)) (rv_move rfl) ?_
    refine sq (v := (I s3)) (rv_move rfl) ?_
    obtain ⟨x6, hx7, h'⟩ := bind_some h
    clear h
    have h := h'; clear h'
    obtain ⟨b9, o10, hi8, -⟩ := (H.ro 0 rfl).ix hx7
    refine sq (v := (pt b9 o10)) (rv_ix Try.underlying29 ti3 rfl rfl hi8) ?_
    have hc11 := ((H.ro 0 rfl).at hx7 hi8).int
    refine sq (v := (I x6)) (rv_load1 Try.underlying3 rfl rfl hc11) ?_
    refine sq (v := (Sl ab_1 b_1 cb_1)) (rv_move rfl) ?_
    refine sq (v := (I s3)) (rv_move rfl) ?_
    obtain ⟨x12, hx13, h'⟩ := bind_some h
    clear h
    have h := h'; clear h'
    obtain ⟨b15, o16, hi14, -⟩ := (H.ro 1 rfl).ix hx13
    refine sq (v := (pt b15 o16)) (rv_ix Try.underlying29 ti3 rfl rfl hi14) ?_
    have hc17 := ((H.ro 1 rfl).at hx13 hi14).int
    refine sq (v := (I x12)) (rv_load1 Try.underlying3 rfl rfl hc17) ?_
    refine sq_end ?_
    intro σ18 hm19
    replace H := H.grow (hm19.mono fun _ h => h); clear hm19
    refine st (v := (B (x6 != x12))) (rv_neq (a := x6) (b := x12) rfl rfl) ?_
    refine w_end ?_
    refine q_then ?_
    refine cd_cond (x6 != x12) rfl (fun hb20 => ?_) (fun hb20 => ?_)
    ·replace h := bif_t hb20 h
     refine c_seq ?_
     refine rg ?_
     refine st (v := (B false)) (rv_assign rfl) ?_
     refine w_end ?_
     refine q_then ?_
     refine c_ret ?_
     refine q_blk_r ?_
     refine q_then_r ?_
     refine q_then_r ?_
     refine q_blk_r ?_
     obtain rfl := Option.some.inj h
     obtain rfl := hres _ rfl
     exact .inr (⟨_, rfl, rfl, _, σ18, fr_join ⟨rfl, trivial⟩, rfl, H.sel' [] rfl rfl⟩)
    ·replace h := bif_f hb20 h
     refine c_skip ?_
     refine q_blk ?_
     refine q_then ?_
     refine rg ?_
     refine st (v := (I s3)) (rv_move rfl) ?_
     refine st (v := (I (w64 (s3 + 1)))) (rv_add (a := s3) (b := 1) rfl rfl) ?_
     refine st (v := (I (w64 (s3 + 1)))) (rv_assign rfl) ?_
     refine w_end ?_
     refine q_then ?_
     obtain rfl := Option.some.inj h
     exact ⟨_, rfl, _, σ18, fr_join ⟨rfl, rfl, rfl, trivial⟩, rfl, H.sel' [0, 1] rfl rfl⟩
   ·replace h := bif_f hb5 h
    refine c_exit ?_
    refine q_then_x ?_
    refine q_then_x ?_
    refine q_blk_hit ?_
    obtain rfl := Option.some.inj h
    obtain rfl := hres _ rfl
    exact .inl ⟨_, rfl, rfl, _, σ4, fr_join trivial, rfl, H.sel' [] rfl rfl⟩
  ·clear hj
   have h := h'
   clear h' H
   rintro e a w (⟨t21, rfl, rfl, ρ, σ22, rfl, rfl, H⟩ | ⟨t23, rfl, rfl, ρ, σ24, rfl, rfl, H⟩)
   ·replace h := selim_l h
    refine q_then ?_
    refine c_seq ?_
    refine rg ?_
    refine st (v := (B true)) (rv_assign rfl) ?_
    refine w_end ?_
    refine q_then ?_
    refine c_ret ?_
    obtain rfl := Option.some.inj h
    exact fin_ret (v := (B true)) (results_ok Try.results22 (res_tmp (v := (B true)) rfl res_nil) rfl) ⟨rfl, rfl⟩ (H.sel' [] rfl rfl)
   ·replace h := selim_r h
    refine q_then_r ?_
    obtain rfl := Option.some.inj h
    exact fin_ret (v := (B t23)) (results_ok Try.results22 (res_tmp (v := (B t23)) rfl res_nil) rfl) ⟨rfl, rfl⟩ (H.sel' [] rfl rfl)

theorem c_spec_reader_pick {r_0 : (List UInt8) × Int} {n_1 : Int} {ar_0_0 : Option Addr} {cr_0_0 : Nat} {lor_0 br_0 or_0 : Nat} {prer_0 sufr_0 : List Value} {r : Int × ((List UInt8) × Int)} (h : M.spec_reader_pick r_0 n_1 = some r) :
    Cal2 Try.prog 50 [(pt br_0 or_0), (I n_1)] [Ch.bx lor_0 br_0 or_0 [(Sl ar_0_0 r_0.1 cr_0_0), (I r_0.2)] prer_0 sufr_0, Ch.ro 0 (Sl ar_0_0 r_0.1 cr_0_0) r_0.1] (fun n0 v L => ∃ (az1 : Option Addr), ∃ (cz2 : Nat), v = (I r.1) ∧ L = [Ch.bx lor_0 br_0 or_0 [(Sl az1 r.2.1 cz2), (I r.2.2)] prer_0 sufr_0, Ch.ro 0 (Sl az1 r.2.1 cz2) r.2.1]) := by
 refine cal2 (n := 99) Try.func50 rfl rfl rfl rfl ?_
 intro S0 σ0 n0 hn0 H
 unfold M.spec_reader_pick at h
 refine c_seq ?_
 refine rg ?_
 refine st (v := (I 0)) (rv_assign rfl) ?_
 refine w_end ?_
 refine q_then ?_
 refine c_seq ?_
 refine rg ?_
 refine st (v := (pt br_0 or_0)) (rv_move rfl) ?_
 refine st (v := (pt br_0 or_0)) (rv_move rfl) ?_
 refine st (v := (pt br_0 or_0)) (rv_nilCheck rfl) ?_
 refine st (v := (pt br_0 (or_0 + 1))) (rv_fieldAddr (off := 1) (ft := 3) Try.underlying72 rfl ti3 rfl rfl) ?_
 have hc1 := H.cell (u := (I r_0.2)) (o' := (or_0 + 1)) 0 1 rfl rfl rfl
 refine st (v := (I r_0.2)) (rv_load1 Try.underlying3 rfl rfl hc1) ?_
 refine st (v := (I (w64 (r_0.2 + 1)))) (rv_add (a := r_0.2) (b := 1) rfl rfl) ?_
 refine st (v := (pt br_0 or_0)) (rv_nilCheck rfl) ?_
 refine st (v := (pt br_0 (or_0 + 1))) (rv_fieldAddr (off := 1) (ft := 3) Try.underlying72 rfl ti3 rfl rfl) ?_
 refine st_exS (ex_store_box (k := 1) (cs := [(Sl ar_0_0 r_0.1 cr_0_0), (I r_0.2)]) (vs := [(I (w64 (r_0.2 + 1)))]) (cs' := [(Sl ar_0_0 r_0.1 cr_0_0), (I (w64 (r_0.2 + 1)))]) H (i := 0) rfl ti3 rfl rfl rfl rfl rfl (Nat.le_of_ble_eq_true rfl) (by simp [plain]) rfl) wn ?_
 rintro σ2 ⟨H, -⟩
 refine w_end ?_
 refine q_then ?_
 refine c_seq ?_
 refine c_seq ?_
 obtain ⟨o3, hj, h'⟩ := bind_some h
 clear h
 refine c_cut (fun e a w => e = .normal ∧ ∃ (ρ : Nat → Value) (σ : St), a = fr 99 (updL ρ [(0, (pt br_0 or_0)), (1, (I n_1)), (24, (B o3))]) ∧ w = σ.w ∧ Hp S0 σ0 σ [Ch.ro 0 (Sl ar_0_0 r_0.1 cr_0_0) r_0.1, Ch.bx lor_0 br_0 or_0 [(Sl ar_0_0 r_0.1 cr_0_0), (I (w64 (r_0.2 + 1)))] prer_0 sufr_0]) ?_ ?_
 ·clear h'
  rename _ = some o3 => h
  refine rg ?_
  refine st (v := (I n_1)) (rv_move rfl) ?_
  refine st (v := (B (decide (n_1 < 1)))) (rv_lss (a := n_1) (b := 1) rfl rfl) ?_
  refine st (v := (B (decide (n_1 < 1)))) (rv_move rfl) ?_
  rcases Bool.eq_false_or_eq_true (decide (n_1 < 1)) with hb4 | hb4
  ·replace h := bif_t hb4 h
   refine st_skip (congrArg some hb4) ?_
   refine st_skip (congrArg some hb4) ?_
   refine st_skip (congrArg some hb4) ?_
   refine st_skip (congrArg some hb4) ?_
   refine st_skip (congrArg some hb4) ?_
   refine st_skip (congrArg some hb4) ?_
   refine st (v := (B true)) (rv_pick_t (congrArg B hb4) rfl) ?_
   refine w_end ?_
   obtain rfl := Option.some.inj h
   exact ⟨rfl, _, σ2, fr_join ⟨rfl, rfl, rfl, trivial⟩, rfl, H.sel' [1, 0] rfl rfl⟩
  ·replace h := bif_f hb4 h
   refine st_g (v := (pt br_0 or_0)) (congrArg some hb4) (rv_move rfl) ?_
   refine st_g (v := (pt br_0 or_0)) (congrArg some hb4) (rv_nilCheck rfl) ?_
   refine st_g (v := (pt br_0 or_0)) (congrArg some hb4) (rv_fieldAddr (off := 0) (ft := 22) Try.underlying72 rfl ti22 rfl rfl) ?_
   have hc5 := H.cell (u := (Sl ar_0_0 r_0.1 cr_0_0)) (o' := or_0) 0 0 rfl rfl rfl
   refine st_g (v := (Sl ar_0_0 r_0.1 cr_0_0)) (congrArg some hb4) (rv_load1 Try.underlying22 rfl rfl hc5) ?_
   refine st_g (v := (I (r_0.1.length : Int))) (congrArg some hb4) (rv_len Try.underlying22 rfl) ?_
   refine st_g (v := (B ((r_0.1.length : Int) == 0))) (congrArg some hb4) (rv_eql (a := (r_0.1.length : Int)) (b := 0) rfl rfl) ?_
   refine st (v := (B ((r_0.1.length : Int) == 0))) (rv_pick_f (congrArg B hb4) rfl) ?_
   refine w_end ?_
   obtain rfl := Option.some.inj h
   exact ⟨rfl, _, σ2, fr_join ⟨rfl, rfl, rfl, trivial⟩, rfl, H.sel' [1, 0] rfl rfl⟩
 ·clear hj
  have h := h'
  clear h' H
  rintro e a w ⟨rfl, ρ, σ6, rfl, rfl, H⟩
  refine q_then ?_
  refine cd_cond o3 rfl (fun hb7 => ?_) (fun hb7 => ?_)
  ·replace h := bif_t hb7 h
   refine c_seq ?_
   refine rg ?_
   refine st (v := (I 0)) (rv_assign rfl) ?_
   refine w_end ?_
   refine q_then ?_
   refine c_ret ?_
   refine q_then_r ?_
   obtain rfl := Option.some.inj h
   exact fin_ret (v := (I 0)) (results_ok Try.results50 (res_tmp (v := (I 0)) rfl res_nil) rfl) ⟨ar_0_0, cr_0_0, rfl, rfl⟩ (H.sel' [1, 0] rfl rfl)
  ·replace h := bif_f hb7 h
   refine c_skip ?_
   refine q_then ?_
   refine c_seq ?_
   refine rg ?_
   refine st (v := (pt br_0 or_0)) (rv_move rfl) ?_
   refine st (v := (pt br_0 or_0)) (rv_nilCheck rfl) ?_
   refine st (v := (pt br_0 (or_0 + 1))) (rv_fieldAddr (off := 1) (ft := 3) Try.underlying72 rfl ti3 rfl rfl) ?_
   have hc8 := H.cell (u := (I (w64 (r_0.2 + 1)))) (o' := (or_0 + 1)) 1 1 rfl rfl rfl
   refine st (v := (I (w64 (r_0.2 + 1)))) (rv_load1 Try.underlying3 rfl rfl hc8) ?_
   refine st (v := (I (w64 ((w64 (r_0.2 + 1)) - 1)))) (rv_sub (a := (w64 (r_0.2 + 1))) (b := 1) rfl rfl) ?_
   refine st (v := (I (w64 ((w64 (r_0.2 + 1)) - 1)))) (rv_assign rfl) ?_
   refine w_end ?_
   refine q_then ?_
   refine c_seq ?_
   refine c_seq ?_
   refine rg ?_
   refine st (v := (I (w64 ((w64 (r_0.2 + 1)) - 1)))) (rv_move rfl) ?_
   refine st (v := (pt br_0 or_0)) (rv_move rfl) ?_
   refine st (v := (pt br_0 or_0)) (rv_nilCheck rfl) ?_
   refine st (v := (pt br_0 or_0)) (rv_fieldAddr (off := 0) (ft := 22) Try.underlying72 rfl ti22 rfl rfl) ?_
   have hc9 := H.cell (u := (Sl ar_0_0 r_0.1 cr_0_0)) (o' := or_0) 1 0 rfl rfl rfl
   refine st (v := (Sl ar_0_0 r_0.1 cr_0_0)) (rv_load1 Try.underlying22 rfl rfl hc9) ?_
   refine st (v := (I (r_0.1.length : Int))) (rv_len Try.underlying22 rfl) ?_
   refine st (v := (B (decide ((w64 ((w64 (r_0.2 + 1)) - 1)) < (r_0.1.length : Int))))) (rv_lss (a := (w64 ((w64 (r_0.2 + 1)) - 1))) (b := (r_0.1.length : Int)) rfl rfl) ?_
   refine w_end ?_
   refine q_then ?_
   refine cd_cond (decide ((w64 ((w64 (r_0.2 + 1)) - 1)) < (r_0.1.length : Int))) rfl (fun hb10 => ?_) (fun hb10 => ?_)
   ·replace h := bif_t hb10 h
    refine c_seq ?_
    refine rg ?_
    refine st (v := (pt br_0 or_0)) (rv_move rfl) ?_
    refine st (v := (pt br_0 or_0)) (rv_nilCheck rfl) ?_
    refine st (v := (pt br_0 or_0)) (rv_fieldAddr (off := 0) (ft := 22) Try.underlying72 rfl ti22 rfl rfl) ?_
    have hc11 := H.cell (u := (Sl ar_0_0 r_0.1 cr_0_0)) (o' := or_0) 1 0 rfl rfl rfl
    refine st (v := (Sl ar_0_0 r_0.1 cr_0_0)) (rv_load1 Try.underlying22 rfl rfl hc11) ?_
    refine st (v := (I (w64 ((w64 (r_0.2 + 1)) - 1)))) (rv_move rfl) ?_
    obtain ⟨x12, hx13, h'⟩ := bind_some h
    clear h
    have h := h'; clear h'
    obtain ⟨b15, o16, hi14, -⟩ := (H.ro 0 rfl).ix hx13
    refine st (v := (pt b15 o16)) (rv_ix Try.underlying22 ti5 rfl rfl hi14) ?_
    have hc17 := ((H.ro 0 rfl).at hx13 hi14).byte
    refine st (v := (.int .u8 (x12.toNat : Int))) (rv_load1 Try.underlying5 rfl rfl hc17) ?_
    refine st (v := (I (w64 (x12.toNat : Int)))) (rv_conv Try.underlying5 Try.underlying3 rfl) ?_
    refine st (v := (I n_1)) (rv_move rfl) ?_
    obtain ⟨q18, hx19, h'⟩ := bind_some h
    clear h
    have h := h'; clear h'
    refine st (v := (I q18)) (rv_remG (a := (w64 (x12.toNat : Int))) (b := n_1) hx19 rfl rfl) ?_
    refine st (v := (I q18)) (rv_assign rfl) ?_
    refine w_end ?_
    refine q_then ?_
    refine c_ret ?_
    refine q_then_r ?_
    obtain rfl := Option.some.inj h
    exact fin_ret (v := (I q18)) (results_ok Try.results50 (res_tmp (v := (I q18)) rfl res_nil) rfl) ⟨ar_0_0, cr_0_0, rfl, rfl⟩ (H.sel' [1, 0] rfl rfl)
   ·replace h := bif_f hb10 h
    refine c_skip ?_
    refine q_then ?_
    refine c_seq ?_
    refine rgP (σ := σ6) 44 (by kernel_rfl) (by kernel_rfl) (by kernel_rfl) ?_
    refine sq (v := (pt br_0 or_0)) (rv_move rfl) ?_
    refine sq (v := (pt br_0 or_0)) (rv_nilCheck rfl) ?_
    refine sq (v := (pt br_0 or_0)) (rv_fieldAddr (off := 0) (ft := 22) Try.underlying72 rfl ti22 rfl rfl) ?_
    have hc20 := H.cell (u := (Sl ar_0_0 r_0.1 cr_0_0)) (o' := or_0) 1 0 rfl rfl rfl
    refine sq (v := (Sl ar_0_0 r_0.1 cr_0_0)) (rv_load1 Try.underlying22 rfl rfl hc20) ?_
    refine sq (v := (I (w64 ((w64 (r_0.2 + 1)) - 1)))) (rv_move rfl) ?_
    refine sq (v := (pt br_0 or_0)) (rv_move rfl) ?_
    refine sq (v := (pt br_0 or_0)) (rv_nilCheck rfl) ?_
    refine sq (v := (pt br_0 or_0)) (rv_fieldAddr (off := 0) (ft := 22) Try.underlying72 rfl ti22 rfl rfl) ?_
    have hc21 := H.cell (u := (Sl ar_0_0 r_0.1 cr_0_0)) (o' := or_0) 1 0 rfl rfl rfl
    refine sq (v := (Sl ar_0_0 r_0.1 cr_0_0)) (rv_load1 Try.underlying22 rfl rfl hc21) ?_
    refine sq (v := (I (r_0.1.length : Int))) (rv_len Try.underlying22 rfl) ?_
    obtain ⟨q22, hx23, h'⟩ := bind_some h
    clear h
    have h := h'; clear h'
    refine sq (v := (I q22)) (rv_remG (a := (w64 ((w64 (r_0.2 + 1)) - 1))) (b := (r_0.1.length : Int)) hx23 rfl rfl) ?_
    obtain ⟨x24, hx25, h'⟩ := bind_some h
    clear h
    have h := h'; clear h'
    obtain ⟨b27, o28, hi26, -⟩ := (H.ro 0 rfl).ix hx25
    refine sq (v := (pt b27 o28)) (rv_ix Try.underlying22 ti5 rfl rfl hi26) ?_
    have hc29 := ((H.ro 0 rfl).at hx25 hi26).byte
    refine sq (v := (.int .u8 (x24.toNat : Int))) (rv_load1 Try.underlying5 rfl rfl hc29) ?_
    refine sq (v := (I (w64 (x24.toNat : Int)))) (rv_conv Try.underlying5 Try.underlying3 rfl) ?_
    refine sq (v := (I (w64 ((w64 (x24.toNat : Int)) * 131)))) (rv_mul (a := (w64 (x24.toNat : Int))) (b := 131) rfl rfl) ?_
    refine sq (v := (pt br_0 or_0)) (rv_move rfl) ?_
    refine sq (v := (pt br_0 or_0)) (rv_nilCheck rfl) ?_
    refine sq (v := (pt br_0 or_0)) (rv_fieldAddr (off := 0) (ft := 22) Try.underlying72 rfl ti22 rfl rfl) ?_
    have hc30 := H.cell (u := (Sl ar_0_0 r_0.1 cr_0_0)) (o' := or_0) 1 0 rfl rfl rfl
    refine sq (v := (Sl ar_0_0 r_0.1 cr_0_0)) (rv_load1 Try.underlying22 rfl rfl hc30) ?_
    refine sq (v := (I (w64 ((w64 (r_0.2 + 1)) - 1)))) (rv_move rfl) ?_
    refine sq (v := (I (w64 ((w64 ((w64 (r_0.2 + 1)) - 1)) * 7)))) (rv_mul (a := (w64 ((w64 (r_0.2 + 1)) - 1))) (b := 7) rfl rfl) ?_
    refine sq (v := (I (w64 ((w64 ((w64 ((w64 (r_0.2 + 1)) - 1)) * 7)) + 3)))) (rv_add (a := (w64 ((w64 ((w64 (r_0.2 + 1)) - 1)) * 7))) (b := 3) rfl rfl) ?_
    refine sq (v := (pt br_0 or_0)) (rv_move rfl) ?_
    refine sq (v := (pt br_0 or_0)) (rv_nilCheck rfl) ?_
    refine sq (v := (pt br_0 or_0)) (rv_fieldAddr (off := 0) (ft := 22) Try.underlying72 rfl ti22 rfl rfl) ?_
    have hc31 := H.cell (u := (Sl ar_0_0 r_0.1 cr_0_0)) (o' := or_0) 1 0 rfl rfl rfl
    refine sq (v := (Sl ar_0_0 r_0.1 cr_0_0)) (rv_load1 Try.underlying22 rfl rfl hc31) ?_
    refine sq (v := (I (r_0.1.length : Int))) (rv_len Try.underlying22 rfl) ?_
    obtain ⟨q32, hx33, h'⟩ := bind_some h
    clear h
    have h := h'; clear h'
    refine sq (v := (I q32)) (rv_remG (a := (w64 ((w64 ((w64 ((w64 (r_0.2 + 1)) - 1)) * 7)) + 3))) (b := (r_0.1.length : Int)) hx33 rfl rfl) ?_
    obtain ⟨x34, hx35, h'⟩ := bind_some h
    clear h
    have h := h'; clear h'
    obtain ⟨b37, o38, hi36, -⟩ := (H.ro 0 rfl).ix hx35
    refine sq (v := (pt b37 o38)) (rv_ix Try.underlying22 ti5 rfl rfl hi36) ?_
    have hc39 := ((H.ro 0 rfl).at hx35 hi36).byte
    refine sq (v := (.int .u8 (x34.toNat : Int))) (rv_load1 Try.underlying5 rfl rfl hc39) ?_
    refine sq (v := (I (w64 (x34.toNat : Int)))) (rv_conv Try.underlying5 Try.underlying3 rfl) ?_
    refine sq (v := (I (w64 ((w64 (x34.toNat : Int)) * 1117)))) (rv_mul (a := (w64 (x34.toNat : Int))) (b := 1117) rfl rfl) ?_
    refine sq (v := (I (w64 ((w64 ((w64 (x24.toNat : Int)) * 131)) + (w64 ((w64 (x34.toNat : Int)) * 1117)))))) (rv_add (a := (w64 ((w64 (x24.toNat : Int)) * 131))) (b := (w64 ((w64 (x34.toNat : Int)) * 1117))) rfl rfl) ?_
    refine sq (v := (I (w64 ((w64 (r_0.2 + 1)) - 1)))) (rv_move rfl) ?_
    refine sq (v := (I (w64 ((w64 ((w64 (r_0.2 + 1)) - 1)) * 29)))) (rv_mul (a := (w64 ((w64 (r_0.2 + 1)) - 1))) (b := 29) rfl rfl) ?_
    refine sq (v := (I (w64 ((w64 ((w64 ((w64 (x24.toNat : Int)) * 131)) + (w64 ((w64 (x34.toNat : Int)) * 1117)))) + (w64 ((w64 ((w64 (r_0.2 + 1)) - 1)) * 29)))))) (rv_add (a := (w64 ((w64 ((w64 (x24.toNat : Int)) * 131)) + (w64 ((w64 (x34.toNat : Int)) * 1117))))) (b := (w64 ((w64 ((w64 (r_0.2 + 1)) - 1)) * 29))) rfl rfl) ?_
    refine sq (v := (I (w64 ((w64 (r_0.2 + 1)) - 1)))) (rv_move rfl) ?_
    refine sq (v := (pt br_0 or_0)) (rv_move rfl) ?_
    refine sq (v := (pt br_0 or_0)) (rv_nilCheck rfl) ?_
    refine sq (v := (pt br_0 or_0)) (rv_fieldAddr (off := 0) (ft := 22) Try.underlying72 rfl ti22 rfl rfl) ?_
    have hc40 := H.cell (u := (Sl ar_0_0 r_0.1 cr_0_0)) (o' := or_0) 1 0 rfl rfl rfl
    refine sq (v := (Sl ar_0_0 r_0.1 cr_0_0)) (rv_load1 Try.underlying22 rfl rfl hc40) ?_
    refine sq (v := (I (r_0.1.length : Int))) (rv_len Try.underlying22 rfl) ?_
    obtain ⟨q41, hx42, h'⟩ := bind_some h
    clear h
    have h := h'; clear h'
    refine sq (v := (I q41)) (rv_quoG (a := (w64 ((w64 (r_0.2 + 1)) - 1))) (b := (r_0.1.length : Int)) hx42 rfl rfl) ?_
    refine sq (v := (I (w64 (q41 * 53)))) (rv_mul (a := q41) (b := 53) rfl rfl) ?_
    refine sq_end ?_
    intro σ43 hm44
    replace H := H.grow (hm44.mono fun _ h => h); clear hm44
    refine st (v := (I (w64 ((w64 ((w64 ((w64 ((w64 (x24.toNat : Int)) * 131)) + (w64 ((w64 (x34.toNat : Int)) * 1117)))) + (w64 ((w64 ((w64 (r_0.2 + 1)) - 1)) * 29)))) + (w64 (q41 * 53)))))) (rv_add (a := (w64 ((w64 ((w64 ((w64 (x24.toNat : Int)) * 131)) + (w64 ((w64 (x34.toNat : Int)) * 1117)))) + (w64 ((w64 ((w64 (r_0.2 + 1)) - 1)) * 29))))) (b := (w64 (q41 * 53))) rfl rfl) ?_
    refine st (v := (I (w64 ((w64 ((w64 ((w64 ((w64 (x24.toNat : Int)) * 131)) + (w64 ((w64 (x34.toNat : Int)) * 1117)))) + (w64 ((w64 ((w64 (r_0.2 + 1)) - 1)) * 29)))) + (w64 (q41 * 53)))))) (rv_assign rfl) ?_
    refine w_end ?_
    refine q_then ?_
    refine c_seq ?_
    refine rg ?_
    refine st (v := (I (w64 ((w64 ((w64 ((w64 ((w64 (x24.toNat : Int)) * 131)) + (w64 ((w64 (x34.toNat : Int)) * 1117)))) + (w64 ((w64 ((w64 (r_0.2 + 1)) - 1)) * 29)))) + (w64 (q41 * 53)))))) (rv_move rfl) ?_
    refine st (v := (I (w64 ((w64 ((w64 ((w64 ((w64 (x24.toNat : Int)) * 131)) + (w64 ((w64 (x34.toNat : Int)) * 1117)))) + (w64 ((w64 ((w64 (r_0.2 + 1)) - 1)) * 29)))) + (w64 (q41 * 53)))))) (rv_move rfl) ?_
    refine st (v := (I (w64 ((w64 ((w64 ((w64 ((w64 ((w64 (x24.toNat : Int)) * 131)) + (w64 ((w64 (x34.toNat : Int)) * 1117)))) + (w64 ((w64 ((w64 (r_0.2 + 1)) - 1)) * 29)))) + (w64 (q41 * 53)))).tdiv 64)))) (rv_quo (a := (w64 ((w64 ((w64 ((w64 ((w64 (x24.toNat : Int)) * 131)) + (w64 ((w64 (x34.toNat : Int)) * 1117)))) + (w64 ((w64 ((w64 (r_0.2 + 1)) - 1)) * 29)))) + (w64 (q41 * 53))))) (b := 64) rfl rfl (by decide)) ?_
    refine st (v := (I (gxor (w64 ((w64 ((w64 ((w64 ((w64 (x24.toNat : Int)) * 131)) + (w64 ((w64 (x34.toNat : Int)) * 1117)))) + (w64 ((w64 ((w64 (r_0.2 + 1)) - 1)) * 29)))) + (w64 (q41 * 53)))) (w64 ((w64 ((w64 ((w64 ((w64 ((w64 (x24.toNat : Int)) * 131)) + (w64 ((w64 (x34.toNat : Int)) * 1117)))) + (w64 ((w64 ((w64 (r_0.2 + 1)) - 1)) * 29)))) + (w64 (q41 * 53)))).tdiv 64))))) (rv_xor (a := (w64 ((w64 ((w64 ((w64 ((w64 (x24.toNat : Int)) * 131)) + (w64 ((w64 (x34.toNat : Int)) * 1117)))) + (w64 ((w64 ((w64 (r_0.2 + 1)) - 1)) * 29)))) + (w64 (q41 * 53))))) (b := (w64 ((w64 ((w64 ((w64 ((w64 ((w64 (x24.toNat : Int)) * 131)) + (w64 ((w64 (x34.toNat : Int)) * 1117)))) + (w64 ((w64 ((w64 (r_0.2 + 1)) - 1)) * 29)))) + (w64 (q41 * 53)))).tdiv 64))) rfl rfl) ?_
    refine st (v := (I (gxor (w64 ((w64 ((w64 ((w64 ((w64 (x24.toNat : Int)) * 131)) + (w64 ((w64 (x34.toNat : Int)) * 1117)))) + (w64 ((w64 ((w64 (r_0.2 + 1)) - 1)) * 29)))) + (w64 (q41 * 53)))) (w64 ((w64 ((w64 ((w64 ((w64 ((w64 (x24.toNat : Int)) * 131)) + (w64 ((w64 (x34.toNat : Int)) * 1117)))) + (w64 ((w64 ((w64 (r_0.2 + 1)) - 1)) * 29)))) + (w64 (q41 * 53)))).tdiv 64))))) (rv_assign rfl) ?_
    refine w_end ?_
    refine q_then ?_
    refine c_seq ?_
    refine rg ?_
    refine st (v := (I (gxor (w64 ((w64 ((w64 ((w64 ((w64 (x24.toNat : Int)) * 131)) + (w64 ((w64 (x34.toNat : Int)) * 1117)))) + (w64 ((w64 ((w64 (r_0.2 + 1)) - 1)) * 29)))) + (w64 (q41 * 53)))) (w64 ((w64 ((w64 ((w64 ((w64 ((w64 (x24.toNat : Int)) * 131)) + (w64 ((w64 (x34.toNat : Int)) * 1117)))) + (w64 ((w64 ((w64 (r_0.2 + 1)) - 1)) * 29)))) + (w64 (q41 * 53)))).tdiv 64))))) (rv_move rfl) ?_
    refine st (v := (I n_1)) (rv_move rfl) ?_
    obtain ⟨q45, hx46, h'⟩ := bind_some h
    clear h
    have h := h'; clear h'
    refine st (v := (I q45)) (rv_remG (a := (gxor (w64 ((w64 ((w64 ((w64 ((w64 (x24.toNat : Int)) * 131)) + (w64 ((w64 (x34.toNat : Int)) * 1117)))) + (w64 ((w64 ((w64 (r_0.2 + 1)) - 1)) * 29)))) + (w64 (q41 * 53)))) (w64 ((w64 ((w64 ((w64 ((w64 ((w64 (x24.toNat : Int)) * 131)) + (w64 ((w64 (x34.toNat : Int)) * 1117)))) + (w64 ((w64 ((w64 (r_0.2 + 1)) - 1)) * 29)))) + (w64 (q41 * 53)))).tdiv 64)))) (b := n_1) hx46 rfl rfl) ?_
    refine st (v := (I q45)) (rv_assign rfl) ?_
    refine w_end ?_
    refine q_then ?_
    refine c_ret ?_
    obtain rfl := Option.some.inj h
    exact fin_ret (v := (I q45)) (results_ok Try.results50 (res_tmp (v := (I q45)) rfl res_nil) rfl) ⟨ar_0_0, cr_0_0, rfl, rfl⟩ (H.sel' [1, 0] rfl rfl)

theorem c_spec_reader_one {r_0 : (List UInt8) × Int} {list_1 : List Int} {ar_0_0 : Option Addr} {cr_0_0 : Nat} {lor_0 br_0 or_0 : Nat} {prer_0 sufr_0 : List Value} {alist_1 : Option Addr} {clist_1 : Nat} {r : Int × ((List UInt8) × Int)} (h : M.spec_reader_one r_0 list_1 = some r) :
    Cal2 Try.prog 75 [(pt br_0 or_0), (Sl alist_1 list_1 clist_1)] [Ch.bx lor_0 br_0 or_0 [(Sl ar_0_0 r_0.1 cr_0_0), (I r_0.2)] prer_0 sufr_0, Ch.ro 0 (Sl ar_0_0 r_0.1 cr_0_0) r_0.1, Ch.ro 0 (Sl alist_1 list_1 clist_1) list_1] (fun n0 v L => ∃ (az1 : Option Addr), ∃ (cz2 : Nat), v = (I r.1) ∧ L = [Ch.bx lor_0 br_0 or_0 [(Sl az1 r.2.1 cz2), (I r.2.2)] prer_0 sufr_0, Ch.ro 0 (Sl az1 r.2.1 cz2) r.2.1]) := by
 refine cal2 (n := 12) Try.func75 rfl rfl rfl rfl ?_
 intro S0 σ0 n0 hn0 H
 unfold M.spec_reader_one at h
 refine c_seq ?_
 refine rg ?_
 refine st (v := (I 0)) (rv_assign rfl) ?_
 refine w_end ?_
 refine q_then ?_
 refine c_seq ?_
 refine rg ?_
 refine st (v := (Sl alist_1 list_1 clist_1)) (rv_move rfl) ?_
 refine st (v := (pt br_0 or_0)) (rv_move rfl) ?_
 refine st (v := (Sl alist_1 list_1 clist_1)) (rv_move rfl) ?_
 refine st (v := (I (list_1.length : Int))) (rv_len Try.underlying29 rfl) ?_
 obtain ⟨r1, hx2, h'⟩ := bind_some h
 clear h
 have h := h'; clear h'
 have hc3 := c_spec_reader_pick (lor_0 := lor_0) (br_0 := br_0) (or_0 := or_0) (prer_0 := prer_0) (sufr_0 := sufr_0) (ar_0_0 := ar_0_0) (cr_0_0 := cr_0_0) hx2
 refine st_call (cx_call hc3 (ent_f hc3.fn rfl) hn0 (show Hp S0 σ0 _ ([Ch.bx lor_0 br_0 or_0 [(Sl ar_0_0 r_0.1 cr_0_0), (I r_0.2)] prer_0 sufr_0, Ch.ro 0 (Sl ar_0_0 r_0.1 cr_0_0) r_0.1] ++ [Ch.ro 0 (Sl ar_0_0 r_0.1 cr_0_0) r_0.1, Ch.ro 0 (Sl alist_1 list_1 clist_1) list_1]) from (H.sel' [0, 1, 1, 2] rfl rfl))) wn ?_
 rintro _ σ6 ⟨_, ⟨a4, c5, rfl, rfl⟩, H, -⟩
 replace H : Hp S0 σ0 σ6 [Ch.bx lor_0 br_0 or_0 [(Sl a4 r1.2.1 c5), (I r1.2.2)] prer_0 sufr_0, Ch.ro 0 (Sl a4 r1.2.1 c5) r1.2.1, Ch.ro 0 (Sl ar_0_0 r_0.1 cr_0_0) r_0.1, Ch.ro 0 (Sl alist_1 list_1 clist_1) list_1] := H
 obtain ⟨x7, hx8, h'⟩ := bind_some h
 clear h
 have h := h'; clear h'
 obtain ⟨b10, o11, hi9, -⟩ := (H.ro 3 rfl).ix hx8
 refine st (v := (pt b10 o11)) (rv_ix Try.underlying29 ti3 rfl rfl hi9) ?_
 have hc12 := ((H.ro 3 rfl).at hx8 hi9).int
 refine st (v := (I x7)) (rv_load1 Try.underlying3 rfl rfl hc12) ?_
 refine st (v := (I x7)) (rv_assign rfl) ?_
 refine w_end ?_
 refine q_then ?_
 refine c_ret ?_
 obtain rfl := Option.some.inj h
 exact fin_ret (v := (I x7)) (results_ok Try.results75 (res_tmp (v := (I x7)) rfl res_nil) rfl) ⟨a4, c5, rfl, rfl⟩ (H.sel' [0, 1] rfl rfl)

end Go.Vs
