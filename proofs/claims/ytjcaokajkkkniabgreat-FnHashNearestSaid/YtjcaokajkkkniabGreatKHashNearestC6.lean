/- The functions compute what their models say. -/
import Derived.Test.YtjcaokajkkkniabGreatKHashNearestC5
set_option linter.unusedVariables false
set_option linter.unusedSimpArgs false
set_option maxRecDepth 20000
namespace Go.Vs
open Go Go.Proofs
attribute [local irreducible] Code.wp Code.wpIn wpList wpListIn wpQuiet Calls CallsIn

theorem c_laws_isIn {As : List Int} {Af : Int} {Au : Option Addr} {Av : Nat} {r : Bool} (h : M.laws_isIn As Af = some r) :
    Cal2 Tryz.prog 9 [(Sl Au As Av), (I Af)] [Ch.ro 0 (Sl Au As Av) As] (fun n0 v L => v = (B r) ∧ L = []) := by
 refine cal2 (n := 18) Tryz.func9 rfl rfl rfl rfl ?_
 intro S0 σ0 n0 hn0 H
 unfold M.laws_isIn at h
 refine c_seq (rg (sa (B false) rfl (w_end (q_then (c_seq (c_seq (rg (sa (I 0) rfl (w_end (q_then ?_))))))))))
 obtain ⟨o1, hj, h'⟩ := bind_some h
 clear h
 refine c_cut (fun e a w => (∃ t, o1 = (.inl t) ∧ e = .normal ∧ ∃ (ρ : Nat → Value) (σ : St), a = fr 18 (updL ρ []) ∧ w = σ.w ∧ Hp S0 σ0 σ []) ∨ (∃ t, o1 = (.inr t) ∧ e = .ret ∧ ∃ (ρ : Nat → Value) (σ : St), a = fr 18 (updL ρ [(4, (B t))]) ∧ w = σ.w ∧ Hp S0 σ0 σ [])) ?_ ?_
 ·clear h'
  rename _ = some o1 => h
  refine c_blk (wp_loopM _ h (fun s2 a w => ∃ (ρ : Nat → Value) (σ : St), a = fr 18 (updL ρ [(0, (Sl Au As Av)), (1, (I Af)), (5, (I s2))]) ∧ w = σ.w ∧ Hp S0 σ0 σ [Ch.ro 0 (Sl Au As Av) As]) ⟨_, σ0, fr_join ⟨rfl, rfl, rfl, trivial⟩, rfl, H.sel' [0] rfl rfl⟩ ?_)
  clear h H
  rintro s2 a w o ⟨ρ, σ3, rfl, rfl, H⟩ h hres
  refine c_seq (c_seq (rg (sm (I s2) rfl (sm (Sl Au As Av) rfl (st (v := (I (As.length : Int))) (rv_len Tryz.underlying25 rfl) (st (v := (B (decide (s2 < (As.length : Int))))) (rv_lss (a := s2) (b := (As.length : Int)) rfl rfl) (w_end (q_then ?_))))))))
  refine cd_cond (decide (s2 < (As.length : Int))) rfl (fun hb4 => ?_) (fun hb4 => ?_)
  ·replace h := bif_t hb4 h
   refine c_skip (q_then (c_seq (c_blk (c_seq (rg (sm (Sl Au As Av) rfl (sm (I s2) rfl ?_)))))))
   revert h; refine br fun x5 hx6 h => ?_
   obtain ⟨b8, o9, hi7, -⟩ := (H.ro 0 rfl).ix hx6
   refine st (v := (pt b8 o9)) (rv_ix Tryz.underlying25 ti3 rfl rfl hi7) ?_
   have hc10 := ((H.ro 0 rfl).at hx6 hi7).int
   refine st (v := (I x5)) (rv_load1 Tryz.underlying3 rfl rfl hc10) (sm (I Af) rfl (st (v := (B (x5 == Af))) (rv_eql (a := x5) (b := Af) rfl rfl) (w_end (q_then ?_))))
   refine cd_cond (x5 == Af) rfl (fun hb11 => ?_) (fun hb11 => ?_)
   ·replace h := bif_t hb11 h
    refine c_seq (rg (sa (B true) rfl (w_end (q_then (c_ret (q_blk_r (q_then_r (q_then_r (q_blk_r ?_)))))))))
    obtain rfl := sj h
    obtain rfl := hres _ rfl
    exact .inr (⟨_, rfl, rfl, _, σ3, fr_join ⟨rfl, trivial⟩, rfl, H.sel' [] rfl rfl⟩)
   ·replace h := bif_f hb11 h
    refine c_skip (q_blk (q_then (rg (sm (I s2) rfl (st (v := (I (w64 (s2 + 1)))) (rv_add (a := s2) (b := 1) rfl rfl) (sa (I (w64 (s2 + 1))) rfl (w_end (q_then ?_))))))))
    obtain rfl := sj h
    exact ⟨_, rfl, _, σ3, fr_join ⟨rfl, rfl, rfl, trivial⟩, rfl, H.sel' [0] rfl rfl⟩
  ·replace h := bif_f hb4 h
   refine c_exit (q_then_x (q_then_x (q_blk_hit ?_)))
   obtain rfl := sj h
   obtain rfl := hres _ rfl
   exact .inl ⟨_, rfl, rfl, _, σ3, fr_join trivial, rfl, H.sel' [] rfl rfl⟩
 ·clear hj
  have h := h'
  clear h' H
  rintro e a w (⟨t12, rfl, rfl, ρ, σ13, rfl, rfl, H⟩ | ⟨t14, rfl, rfl, ρ, σ15, rfl, rfl, H⟩)
  ·replace h := selim_l h
   refine q_then (c_seq (rg (sa (B false) rfl (w_end (q_then (c_ret ?_))))))
   obtain rfl := sj h
   exact fin_ret (v := (B false)) (results_ok Tryz.results9 (res_tmp (v := (B false)) rfl res_nil) rfl) ⟨rfl, rfl⟩ (H.sel' [] rfl rfl)
  ·replace h := selim_r h
   refine q_then_r ?_
   obtain rfl := sj h
   exact fin_ret (v := (B t14)) (results_ok Tryz.results9 (res_tmp (v := (B t14)) rfl res_nil) rfl) ⟨rfl, rfl⟩ (H.sel' [] rfl rfl)

theorem c_laws_itemOf {As : List (Int × (List Int) × Int)} {Hg : Int} {Au : Option Addr} {Av : Nat} {r : (Int × (List Int) × Int)} (h : M.laws_itemOf As Hg = some r) :
    Cal2 Tryz.prog 11 [(Sl Au As Av), (I Hg)] [Ch.ro 0 (Sl Au As Av) As] (fun n0 v L => ∃ (az1 : Option Addr), ∃ (cz2 : Nat), v = (.agg #[(I r.1), (Sl az1 r.2.1 cz2), (I r.2.2)]) ∧ L = [Ch.ro 0 (Sl az1 r.2.1 cz2) r.2.1]) := by
 refine cal2 (n := 24) Tryz.func11 rfl rfl rfl rfl ?_
 intro S0 σ0 n0 hn0 H
 unfold M.laws_itemOf at h
 refine c_seq (rg (st_ex (ex_alloc (cs := [(I 0), (.slice none 0 0), (I 0)]) H hn0 ti37 rfl) wn ?_))
 rintro _ σ2 ⟨b1, rfl, H, -⟩
 refine w_end (q_then (c_seq (c_seq (rg (sa (I 0) rfl (w_end (q_then ?_)))))))
 obtain ⟨o3, hj, h'⟩ := bind_some h
 clear h
 refine c_cut (fun e a w => (∃ t, o3 = (.inl t) ∧ e = .normal ∧ ∃ (ρ : Nat → Value) (σ : St), a = fr 24 (updL ρ [(4, (pt b1 0))]) ∧ w = σ.w ∧ Hp S0 σ0 σ [Ch.bx n0 b1 0 [(I 0), (.slice none 0 0), (I 0)] [] []]) ∨ (∃ t, o3 = (.inr t) ∧ e = .ret ∧ ∃ (ρ : Nat → Value) (σ : St) (aj1 : Option Addr) (cj2 : Nat), a = fr 24 (updL ρ [(4, (pt b1 0))]) ∧ w = σ.w ∧ Hp S0 σ0 σ [Ch.bx n0 b1 0 [(I t.1), (Sl aj1 t.2.1 cj2), (I t.2.2)] [] [], Ch.ro 0 (Sl aj1 t.2.1 cj2) t.2.1])) ?_ ?_
 ·clear h'
  rename _ = some o3 => h
  refine c_blk (wp_loopM _ h (fun s4 a w => ∃ (ρ : Nat → Value) (σ : St), a = fr 24 (updL ρ [(0, (Sl Au As Av)), (1, (I Hg)), (4, (pt b1 0)), (5, (I s4))]) ∧ w = σ.w ∧ Hp S0 σ0 σ [Ch.ro 0 (Sl Au As Av) As, Ch.bx n0 b1 0 [(I 0), (.slice none 0 0), (I 0)] [] []]) ⟨_, σ2, fr_join ⟨rfl, rfl, rfl, rfl, trivial⟩, rfl, H.sel' [1, 0] rfl rfl⟩ ?_)
  clear h H
  rintro s4 a w o ⟨ρ, σ5, rfl, rfl, H⟩ h hres
  refine c_seq (c_seq (rg (sm (I s4) rfl (sm (Sl Au As Av) rfl (st (v := (I (As.length : Int))) (rv_len Tryz.underlying24 rfl) (st (v := (B (decide (s4 < (As.length : Int))))) (rv_lss (a := s4) (b := (As.length : Int)) rfl rfl) (w_end (q_then ?_))))))))
  refine cd_cond (decide (s4 < (As.length : Int))) rfl (fun hb6 => ?_) (fun hb6 => ?_)
  ·replace h := bif_t hb6 h
   refine c_skip (q_then (c_seq (c_blk (c_seq (rg (sm (Sl Au As Av) rfl (sm (I s4) rfl ?_)))))))
   revert h; refine br fun x7 hx8 h => ?_
   obtain ⟨b10, o11, hi9, -⟩ := (H.ro 0 rfl).ix hx8
   refine st (v := (pt b10 o11)) (rv_ix Tryz.underlying24 ti37 rfl rfl hi9) (st (v := (pt b10 (o11 + 0))) (rv_fieldAddr (off := 0) (ft := 3) Tryz.underlying37 rfl ti3 rfl rfl) ?_)
   have hc12 := ((H.ro 0 rfl).at hx8 hi9).fst.int
   refine st (v := (I x7.1)) (rv_load1 Tryz.underlying3 rfl rfl hc12) (sm (I Hg) rfl (st (v := (B (x7.1 == Hg))) (rv_eql (a := x7.1) (b := Hg) rfl rfl) (w_end (q_then ?_))))
   refine cd_cond (x7.1 == Hg) rfl (fun hb13 => ?_) (fun hb13 => ?_)
   ·replace h := bif_t hb13 h
    refine c_seq (rg (sm (Sl Au As Av) rfl (sm (I s4) rfl ?_)))
    revert h; refine br fun x14 hx15 h => ?_
    obtain ⟨b17, o18, hi16, -⟩ := (H.ro 0 rfl).ix hx15
    refine st (v := (pt b17 o18)) (rv_ix Tryz.underlying24 ti37 rfl rfl hi16) ?_
    obtain ⟨_, ⟨_, _, rfl, rfl, ⟨_, _, rfl, ⟨_, rfl, hR23⟩, rfl⟩⟩, hl19, hc20⟩ := ((H.ro 0 rfl).at hx15 hi16).cells
    obtain ⟨a21, c22, rfl⟩ := hR23.isSl
    replace H := H.add (d := Ch.ro 0 (Sl a21 x14.2.1 c22) x14.2.1) hR23 (fun _ h => h)
    clear hR23
    refine st (v := (.agg #[(I x14.1), (Sl a21 x14.2.1 c22), (I x14.2.2)])) (rv_load Tryz.underlying37 rfl ti37 rfl hl19 hc20) ?_
    refine st_exS (ex_store_box (k := 0) (cs := [(I 0), (.slice none 0 0), (I 0)]) (vs := [(I x14.1), (Sl a21 x14.2.1 c22), (I x14.2.2)]) (cs' := [(I x14.1), (Sl a21 x14.2.1 c22), (I x14.2.2)]) H (i := 2) rfl ti37 rfl rfl rfl rfl rfl (Nat.le_of_ble_eq_true rfl) (by simp [plain]) rfl) wn ?_
    rintro σ24 ⟨H, -⟩
    refine w_end (q_then (c_ret (q_blk_r (q_then_r (q_then_r (q_blk_r ?_))))))
    obtain rfl := sj h
    obtain rfl := hres _ rfl
    exact .inr (⟨_, rfl, rfl, _, σ24, a21, c22, fr_join ⟨rfl, trivial⟩, rfl, H.sel' [0, 1] rfl rfl⟩)
   ·replace h := bif_f hb13 h
    refine c_skip (q_blk (q_then (rg (sm (I s4) rfl (st (v := (I (w64 (s4 + 1)))) (rv_add (a := s4) (b := 1) rfl rfl) (sa (I (w64 (s4 + 1))) rfl (w_end (q_then ?_))))))))
    obtain rfl := sj h
    exact ⟨_, rfl, _, σ5, fr_join ⟨rfl, rfl, rfl, rfl, trivial⟩, rfl, H.sel' [0, 1] rfl rfl⟩
  ·replace h := bif_f hb6 h
   refine c_exit (q_then_x (q_then_x (q_blk_hit ?_)))
   obtain rfl := sj h
   obtain rfl := hres _ rfl
   exact .inl ⟨_, rfl, rfl, _, σ5, fr_join ⟨rfl, trivial⟩, rfl, H.sel' [1] rfl rfl⟩
 ·clear hj
  have h := h'
  clear h' H
  rintro e a w (⟨t25, rfl, rfl, ρ, σ26, rfl, rfl, H⟩ | ⟨t28, rfl, rfl, ρ, σ29, a30, c31, rfl, rfl, H⟩)
  ·replace h := selim_l h
   refine q_then (c_seq (rg ?_))
   refine st (v := (.agg #[(I 0), (.slice none 0 0), (I 0)])) (rv_build (ps := []) Tryz.underlying37 ti37 (bp37 Tryz.underlying37) rfl (by kernel_rfl)) ?_
   refine st_exS (ex_store_box (k := 0) (cs := [(I 0), (.slice none 0 0), (I 0)]) (vs := [(I 0), (.slice none 0 0), (I 0)]) (cs' := [(I 0), (.slice none 0 0), (I 0)]) H (i := 0) rfl ti37 rfl rfl rfl rfl rfl (Nat.le_of_ble_eq_true rfl) (by simp [plain]) rfl) wn ?_
   rintro σ27 ⟨H, -⟩
   refine w_end (q_then (c_ret ?_))
   replace H := H.nilRo Int 0
   obtain rfl := sj h
   exact fin_ret (v := (.agg #[(I 0), (.slice none 0 0), (I 0)])) (results_ok Tryz.results11 (res_cell rfl (run_cellRes (cs := [(I 0), (.slice none 0 0), (I 0)]) Tryz.underlying37 rfl ti37 rfl (H.cells 1 rfl)) res_nil) rfl) ⟨none, 0, rfl, rfl⟩ (H.sel' [0] rfl rfl)
  ·replace h := selim_r h
   refine q_then_r ?_
   obtain rfl := sj h
   exact fin_ret (v := (.agg #[(I t28.1), (Sl a30 t28.2.1 c31), (I t28.2.2)])) (results_ok Tryz.results11 (res_cell rfl (run_cellRes (cs := [(I t28.1), (Sl a30 t28.2.1 c31), (I t28.2.2)]) Tryz.underlying37 rfl ti37 rfl (H.cells 0 rfl)) res_nil) rfl) ⟨a30, c31, rfl, rfl⟩ (H.sel' [1] rfl rfl)

theorem c_impl_validKind {Eb : Int}  {r : Bool} (h : M.impl_validKind Eb = some r) :
    Cal2 Tryz.prog 51 [(I Eb)] [] (fun n0 v L => v = (B r) ∧ L = []) := by
 refine cal2 (n := 9) Tryz.func51 rfl rfl rfl rfl ?_
 intro S0 σ0 n0 hn0 H
 unfold M.impl_validKind at h
 refine c_seq (rg (sa (B false) rfl (w_end (q_then (c_seq (rg (sm (I Eb) rfl (st (v := (B (decide (1 ≤ Eb)))) (rv_geq (a := Eb) (b := 1) rfl rfl) (sm (B (decide (1 ≤ Eb))) rfl ?_)))))))))
 rcases Bool.eq_false_or_eq_true (decide (1 ≤ Eb)) with hb1 | hb1
 ·replace h := bif_t hb1 h
  refine st_g (v := (I Eb)) (congrArg some hb1) (rv_move rfl) (st_g (v := (B (decide (Eb ≤ 4)))) (congrArg some hb1) (rv_leq (a := Eb) (b := 4) rfl rfl) (st (v := (B (decide (Eb ≤ 4)))) (rv_pick_t (congrArg B hb1) rfl) (sa (B (decide (Eb ≤ 4))) rfl (w_end (q_then (c_ret ?_))))))
  obtain rfl := sj h
  exact fin_ret (v := (B (decide (Eb ≤ 4)))) (results_ok Tryz.results51 (res_tmp (v := (B (decide (Eb ≤ 4)))) rfl res_nil) rfl) ⟨rfl, rfl⟩ (H.sel' [] rfl rfl)
 ·replace h := bif_f hb1 h
  refine st_skip (congrArg some hb1) (st_skip (congrArg some hb1) (st (v := (B false)) (rv_pick_f (congrArg B hb1) rfl) (sa (B false) rfl (w_end (q_then (c_ret ?_))))))
  obtain rfl := sj h
  exact fin_ret (v := (B false)) (results_ok Tryz.results51 (res_tmp (v := (B false)) rfl res_nil) rfl) ⟨rfl, rfl⟩ (H.sel' [] rfl rfl)

theorem c_impl_validSearch {As : List (Int × (List Int) × Int)} {Fp : Int} {Bp : List Int} {Fq : Int} {Au : Option Addr} {Av : Nat} {Bt : Option Addr} {Bu : Nat} {r : Bool} (h : M.impl_validSearch As Fp Bp Fq = some r) :
    Cal2 Tryz.prog 30 [(Sl Au As Av), (I Fp), (Sl Bt Bp Bu), (I Fq)] [Ch.ro 0 (Sl Au As Av) As, Ch.ro 0 (Sl Bt Bp Bu) Bp] (fun n0 v L => v = (B r) ∧ L = []) := by
 refine cal2 (n := 23) Tryz.func30 rfl rfl rfl rfl ?_
 intro S0 σ0 n0 hn0 H
 unfold M.impl_validSearch at h
 refine c_seq (rg (sa (B false) rfl (w_end (q_then (c_seq (rg (sm (Sl Au As Av) rfl ?_)))))))
 revert h; refine br fun r1 hx2 h => ?_
 have hc3 := c_impl_ValidStore (Au := Au) (Av := Av) hx2
 refine st_call (cx_call hc3 (ent_f hc3.fn rfl) hn0 (H.sel' [0, 0, 1] rfl rfl : Hp S0 σ0 _ ([_] ++ _))) wn ?_
 rintro _ σ4 ⟨_, ⟨rfl, rfl⟩, H, -⟩
 replace H : Hp _ _ _ [_, _] := H
 refine sm (B r1) rfl ?_
 rcases Bool.eq_false_or_eq_true r1 with hb5 | hb5
 ·replace h := bif_t hb5 h
  refine st_g (v := (I Fp)) (congrArg some hb5) (rv_move rfl) ?_
  revert h; refine br fun r6 hx7 h => ?_
  have hc8 := c_impl_validKind hx7
  refine st_call (cx_call hc8 (ent_f hc8.fn rfl) hn0 (H.sel' [0, 1] rfl rfl : Hp S0 σ0 _ ([] ++ _))) (wanted_yes rfl (by exact (congrArg some hb5))) ?_
  rintro _ σ9 ⟨_, ⟨rfl, rfl⟩, H, -⟩
  replace H : Hp _ _ _ [_, _] := H
  refine st (v := (B r6)) (rv_pick_t (congrArg B hb5) rfl) (sm (B r6) rfl ?_)
  rcases Bool.eq_false_or_eq_true r6 with hb10 | hb10
  ·replace h := bif_t hb10 h
   refine st_g (v := (Sl Bt Bp Bu)) (congrArg some hb10) (rv_move rfl) ?_
   revert h; refine br fun r11 hx12 h => ?_
   have hc13 := c_impl_ValidVector (Bb := Bt) (Bc := Bu) hx12
   refine st_call (cx_call hc13 (ent_f hc13.fn rfl) hn0 (H.sel' [1, 0, 1] rfl rfl : Hp S0 σ0 _ ([_] ++ _))) (wanted_yes rfl (by exact (congrArg some hb10))) ?_
   rintro _ σ14 ⟨_, ⟨rfl, rfl⟩, H, -⟩
   replace H : Hp _ _ _ [_, _] := H
   refine st (v := (B r11)) (rv_pick_t (congrArg B hb10) rfl) (sm (B r11) rfl ?_)
   rcases Bool.eq_false_or_eq_true r11 with hb15 | hb15
   ·replace h := bif_t hb15 h
    refine st_g (v := (I Fq)) (congrArg some hb15) (rv_move rfl) ?_
    revert h; refine br fun r16 hx17 h => ?_
    have hc18 := c_impl_validCount hx17
    refine st_call (cx_call hc18 (ent_f hc18.fn rfl) hn0 (H.sel' [0, 1] rfl rfl : Hp S0 σ0 _ ([] ++ _))) (wanted_yes rfl (by exact (congrArg some hb15))) ?_
    rintro _ σ19 ⟨_, ⟨rfl, rfl⟩, H, -⟩
    replace H : Hp _ _ _ [_, _] := H
    refine st (v := (B r16)) (rv_pick_t (congrArg B hb15) rfl) (sa (B r16) rfl (w_end (q_then (c_ret ?_))))
    obtain rfl := sj h
    exact fin_ret (v := (B r16)) (results_ok Tryz.results30 (res_tmp (v := (B r16)) rfl res_nil) rfl) ⟨rfl, rfl⟩ (H.sel' [] rfl rfl)
   ·replace h := bif_f hb15 h
    refine st_skip (congrArg some hb15) (st_skip (congrArg some hb15) (st (v := (B false)) (rv_pick_f (congrArg B hb15) rfl) (sa (B false) rfl (w_end (q_then (c_ret ?_))))))
    obtain rfl := sj h
    exact fin_ret (v := (B false)) (results_ok Tryz.results30 (res_tmp (v := (B false)) rfl res_nil) rfl) ⟨rfl, rfl⟩ (H.sel' [] rfl rfl)
  ·replace h := bif_f hb10 h
   refine st_skip (congrArg some hb10) (st_skip (congrArg some hb10) (st (v := (B false)) (rv_pick_f (congrArg B hb10) rfl) (sm (B false) rfl (st_skip rfl (st_skip rfl (st (v := (B false)) (rv_pick_f rfl rfl) (sa (B false) rfl (w_end (q_then (c_ret ?_))))))))))
   obtain rfl := sj h
   exact fin_ret (v := (B false)) (results_ok Tryz.results30 (res_tmp (v := (B false)) rfl res_nil) rfl) ⟨rfl, rfl⟩ (H.sel' [] rfl rfl)
 ·replace h := bif_f hb5 h
  refine st_skip (congrArg some hb5) (st_skip (congrArg some hb5) (st (v := (B false)) (rv_pick_f (congrArg B hb5) rfl) (sm (B false) rfl (st_skip rfl (st_skip rfl (st (v := (B false)) (rv_pick_f rfl rfl) (sm (B false) rfl (st_skip rfl (st_skip rfl (st (v := (B false)) (rv_pick_f rfl rfl) (sa (B false) rfl ?_)))))))))))
  refine w_end (q_then (c_ret ?_))
  obtain rfl := sj h
  exact fin_ret (v := (B false)) (results_ok Tryz.results30 (res_tmp (v := (B false)) rfl res_nil) rfl) ⟨rfl, rfl⟩ (H.sel' [] rfl rfl)

theorem c_impl_Nearest {As : List (Int × (List Int) × Int)} {Fp : Int} {Bp : List Int} {Fq : Int} {Au : Option Addr} {Av : Nat} {Bt : Option Addr} {Bu : Nat} {r : (List (Int × Int))} (h : M.impl_Nearest As Fp Bp Fq = some r) :
    Cal2 Tryz.prog 12 [(Sl Au As Av), (I Fp), (Sl Bt Bp Bu), (I Fq)] [Ch.ro 0 (Sl Au As Av) As, Ch.ro 0 (Sl Bt Bp Bu) Bp] (fun n0 v L => ∃ (az1 : Option Addr), ∃ (cz2 : Nat), v = (Sl az1 r cz2) ∧ L = [Ch.own 0 n0 (Sl az1 r cz2) r]) := by
 refine cal2 (n := 20) Tryz.func12 rfl rfl rfl rfl ?_
 intro S0 σ0 n0 hn0 H
 unfold M.impl_Nearest at h
 refine c_seq (rg (sa (.slice none 0 0) rfl (w_end (q_then (c_seq (c_seq (rg (sm (Sl Au As Av) rfl (sm (I Fp) rfl (sm (Sl Bt Bp Bu) rfl (sm (I Fq) rfl ?_)))))))))))
 revert h; refine br fun r1 hx2 h => ?_
 have hc3 := c_impl_validSearch (Au := Au) (Av := Av) (Bt := Bt) (Bu := Bu) hx2
 refine st_call (cx_call hc3 (ent_f hc3.fn rfl) hn0 (H.sel' [0, 1, 0, 1] rfl rfl : Hp S0 σ0 _ ([_, _] ++ _))) wn ?_
 rintro _ σ4 ⟨_, ⟨rfl, rfl⟩, H, -⟩
 replace H : Hp _ _ _ [_, _] := H
 refine st (v := (B (!r1))) (rv_not rfl) (w_end (q_then ?_))
 refine cd_cond (!r1) rfl (fun hb5 => ?_) (fun hb5 => ?_)
 ·replace h := bif_t hb5 h
  refine c_seq (rg (sa (.slice none 0 0) rfl (w_end (q_then (c_ret (q_then_r ?_))))))
  replace H := H.nilOwn (Int × Int) 0 n0
  obtain rfl := sj h
  exact fin_ret (v := (.slice none 0 0)) (results_ok Tryz.results12 (res_tmp (v := (.slice none 0 0)) rfl res_nil) rfl) ⟨none, 0, rfl, rfl⟩ (H.sel' [0] rfl rfl)
 ·replace h := bif_f hb5 h
  refine c_skip (q_then (c_seq (rg (sm (Sl Au As Av) rfl (sm (I Fp) rfl (sm (Sl Bt Bp Bu) rfl (sm (I Fq) rfl ?_)))))))
  revert h; refine br fun r6 hx7 h => ?_
  have hc8 := c_impl_nearestAmong (Au := Au) (Av := Av) (Bt := Bt) (Bu := Bu) hx7
  refine st_call (cx_call hc8 (ent_f hc8.fn rfl) hn0 (H.sel' [0, 1, 0, 1] rfl rfl : Hp S0 σ0 _ ([_, _] ++ _))) wn ?_
  rintro _ σ11 ⟨_, ⟨a9, c10, rfl, rfl⟩, H, -⟩
  replace H : Hp _ _ _ [_, _, _] := H
  refine sa (Sl a9 r6 c10) rfl (w_end (q_then (c_ret ?_)))
  obtain rfl := sj h
  exact fin_ret (v := (Sl a9 r6 c10)) (results_ok Tryz.results12 (res_tmp (v := (Sl a9 r6 c10)) rfl res_nil) rfl) ⟨a9, c10, rfl, rfl⟩ (H.sel' [0] rfl rfl)

theorem c_laws_FnHashNearest {Aa : List UInt8} {Ac : Option Addr} {Ad : Nat} {r : Bool} (h : M.laws_FnHashNearest Aa = some r) :
    Cal2 Tryz.prog 3 [(Sl Ac Aa Ad)] [Ch.ro 0 (Sl Ac Aa Ad) Aa] (fun n0 v L => v = (B r) ∧ L = []) := by
 refine cal2 (n := 97) Tryz.func3 rfl rfl rfl rfl ?_
 intro S0 σ0 n0 hn0 H
 unfold M.laws_FnHashNearest at h
 refine c_seq (rg (sa (B false) rfl (w_end (q_then (c_seq (c_seq (rg (sm (Sl Ac Aa Ad) rfl (st (v := (I (Aa.length : Int))) (rv_len Tryz.underlying22 rfl) (st (v := (B (decide (1048576 < (Aa.length : Int))))) (rv_gtr (a := (Aa.length : Int)) (b := 1048576) rfl rfl) (w_end ?_)))))))))))
 refine q_then ?_
 refine cd_cond (decide (1048576 < (Aa.length : Int))) rfl (fun hb1 => ?_) (fun hb1 => ?_)
 ·replace h := bif_t hb1 h
  refine c_seq (rg (sa (B true) rfl (w_end (q_then (c_ret (q_then_r ?_))))))
  obtain rfl := sj h
  exact fin_ret (v := (B true)) (results_ok Tryz.results3 (res_tmp (v := (B true)) rfl res_nil) rfl) ⟨rfl, rfl⟩ (H.sel' [] rfl rfl)
 ·replace h := bif_f hb1 h
  refine c_skip (q_then (c_seq (rg (sm (Sl Ac Aa Ad) rfl ?_))))
  revert h; refine br fun r2 hx3 h => ?_
  have hc4 := c_spec_DrawHashNearest (Ac := Ac) (Ad := Ad) hx3
  refine st_call (cx_call hc4 (ent_f hc4.fn rfl) hn0 (H.sel' [0, 0] rfl rfl : Hp S0 σ0 _ ([_] ++ _))) wn ?_
  rintro _ σ11 ⟨_, ⟨a5, c6, a7, c8, a9, c10, rfl, rfl⟩, H, -⟩
  replace H : Hp _ _ _ [_, _, _, _] := H
  refine sm (.tuple #[(Sl a5 r2.1 c6), (Sl a7 r2.2.1 c8), (Sl a9 r2.2.2.1 c10), (I r2.2.2.2.1), (I r2.2.2.2.2)]) rfl (st (v := (Sl a5 r2.1 c6)) (rv_extract rfl rfl) (st (v := (Sl a7 r2.2.1 c8)) (rv_extract rfl rfl) (st (v := (Sl a9 r2.2.2.1 c10)) (rv_extract rfl rfl) (st (v := (I r2.2.2.2.1)) (rv_extract rfl rfl) (st (v := (I r2.2.2.2.2)) (rv_extract rfl rfl) (sa (Sl a5 r2.1 c6) rfl (sa (Sl a7 r2.2.1 c8) rfl (sa (Sl a9 r2.2.2.1 c10) rfl (sa (I r2.2.2.2.1) rfl (sa (I r2.2.2.2.2) rfl (w_end ?_)))))))))))
  refine q_then (c_seq (rg (sm (Sl a5 r2.1 c6) rfl (sm (Sl a7 r2.2.1 c8) rfl (sm (Sl a9 r2.2.2.1 c10) rfl (sm (I r2.2.2.2.1) rfl (sm (I r2.2.2.2.2) rfl ?_)))))))
  revert h; refine br fun r12 hx13 h => ?_
  have hc14 := c_impl_HashNearest (Br := a5) (Bs := c6) (Aq := a7) (Ar := c8) (Bt := a9) (Bu := c10) hx13
  have hle := Nat.le_trans hn0 H.size
  refine st_call (cx_lend (Loan.lend (Loan.lend (Loan.lend Loan.nil))) hc14 (ent_f hc14.fn rfl) (show Hp S0 σ0 _ ([Ch.own n0 n0 (Sl a5 r2.1 c6) r2.1, Ch.own n0 n0 (Sl a7 r2.2.1 c8) r2.2.1, Ch.own n0 n0 (Sl a9 r2.2.2.1 c10) r2.2.2.1] ++ ([] ++ [Ch.ro 0 (Sl Ac Aa Ad) Aa])) from (H.sel' [0, 1, 2, 3] rfl rfl)) (by rintro _ _ _ ⟨_, _, rfl, rfl⟩; exact ⟨Ab.ownSc, trivial⟩)) wn ?_
  rintro _ σ17 ⟨_, ⟨a15, c16, rfl, rfl⟩, H, -, -⟩
  replace H : Hp _ _ _ [_, _, _, _, _] := H
  replace H := H.ownLow 0 0 n0 rfl (Nat.le_refl _) hle
  clear hle
  replace H : Hp _ _ _ [_, _, _, _, _] := H
  refine sa (Sl a15 r12 c16) rfl (w_end (q_then (c_seq (c_seq ?_))))
  obtain ⟨o18, hj, h'⟩ := bind_some h
  clear h
  refine c_cut (fun e a w => e = .normal ∧ ∃ (ρ : Nat → Value) (σ : St), a = fr 97 (updL ρ [(3, (Sl a5 r2.1 c6)), (4, (Sl a7 r2.2.1 c8)), (5, (Sl a9 r2.2.2.1 c10)), (6, (I r2.2.2.2.1)), (7, (I r2.2.2.2.2)), (8, (Sl a15 r12 c16)), (41, (B o18))]) ∧ w = σ.w ∧ Hp S0 σ0 σ [Ch.own n0 n0 (Sl a5 r2.1 c6) r2.1, Ch.own n0 n0 (Sl a7 r2.2.1 c8) r2.2.1, Ch.own n0 n0 (Sl a9 r2.2.2.1 c10) r2.2.2.1, Ch.own 0 n0 (Sl a15 r12 c16) r12]) ?_ ?_
  ·clear h'
   rename _ = some o18 => h
   refine rg (sm (Sl a15 r12 c16) rfl (sm (Sl a5 r2.1 c6) rfl (sm (Sl a7 r2.2.1 c8) rfl (sm (Sl a9 r2.2.2.1 c10) rfl (sm (I r2.2.2.2.1) rfl (sm (I r2.2.2.2.2) rfl ?_))))))
   revert h; refine br fun r19 hx20 h => ?_
   have hc21 := c_spec_HashNearest (Br := a5) (Bs := c6) (Aq := a7) (Ar := c8) (Bt := a9) (Bu := c10) hx20
   have hle := Nat.le_trans hn0 H.size
   refine st_call (cx_lend (Loan.lend (Loan.lend (Loan.lend Loan.nil))) hc21 (ent_f hc21.fn rfl) (show Hp S0 σ0 _ ([Ch.own n0 n0 (Sl a5 r2.1 c6) r2.1, Ch.own n0 n0 (Sl a7 r2.2.1 c8) r2.2.1, Ch.own n0 n0 (Sl a9 r2.2.2.1 c10) r2.2.2.1] ++ ([] ++ [Ch.own 0 n0 (Sl a15 r12 c16) r12, Ch.ro 0 (Sl Ac Aa Ad) Aa])) from (H.sel' [1, 2, 3, 0, 4] rfl rfl)) (by rintro _ _ _ ⟨_, _, rfl, rfl⟩; exact ⟨Ab.ownSc, trivial⟩)) wn ?_
   rintro _ σ24 ⟨_, ⟨a22, c23, rfl, rfl⟩, H, -, -⟩
   replace H : Hp _ _ _ [_, _, _, _, _, _] := H
   replace H := H.ownLow 0 n0 n0 rfl hle hle
   clear hle
   replace H : Hp _ _ _ [_, _, _, _, _, _] := H
   obtain ⟨σ25, hw26, H, -⟩ := H.pub 0 rfl (Nat.le_refl _)
   rw [← hw26]; clear hw26
   replace H := H.roLow 0 0 rfl (Nat.zero_le _)
   revert h; refine br fun r27 hx28 h => ?_
   have hc29 := c_laws_equalHits (Fr := a15) (Fs := c16) (Ft := a22) (Fu := c23) hx28
   have hle := Nat.le_trans hn0 H.size
   refine st_call (cx_lend (Loan.lend (Loan.same Loan.nil)) hc29 (ent_f hc29.fn rfl) (show Hp S0 σ0 _ ([Ch.own 0 n0 (Sl a15 r12 c16) r12] ++ ([Ch.ro 0 (Sl a22 r19 c23) r19] ++ [Ch.ro 0 (Sl a22 r19 c23) r19, Ch.ro n0 (Sl a22 r19 c23) r19, Ch.own n0 n0 (Sl a5 r2.1 c6) r2.1, Ch.own n0 n0 (Sl a7 r2.2.1 c8) r2.2.1, Ch.own n0 n0 (Sl a9 r2.2.2.1 c10) r2.2.2.1, Ch.ro 0 (Sl Ac Aa Ad) Aa])) from (H.sel' [5, 0, 0, 1, 2, 3, 4, 6] rfl rfl)) (by rintro _ _ _ ⟨rfl, rfl⟩; exact trivial)) wn ?_
   rintro _ σ30 ⟨_, ⟨rfl, rfl⟩, H, -, -⟩
   replace H : Hp _ _ _ [_, _, _, _, _, _, _] := H
   clear hle
   replace H : Hp _ _ _ [_, _, _, _, _, _, _] := H
   refine st (v := (B (!r27))) (rv_not rfl) (sm (B (!r27)) rfl ?_)
   rcases Bool.eq_false_or_eq_true (!r27) with hb31 | hb31
   ·replace h := bif_t hb31 h
    refine st_skip (congrArg some hb31) (st_skip (congrArg some hb31) (st_skip (congrArg some hb31) (st (v := (B true)) (rv_pick_t (congrArg B hb31) rfl) (w_end ?_))))
    obtain rfl := sj h
    exact ⟨rfl, _, σ30, fr_join ⟨rfl, rfl, rfl, rfl, rfl, rfl, rfl, trivial⟩, rfl, H.sel' [3, 4, 5, 0] rfl rfl⟩
   ·replace h := bif_f hb31 h
    refine st_g (v := (Sl a15 r12 c16)) (congrArg some hb31) (rv_move rfl) (st_g (v := (I (r12.length : Int))) (congrArg some hb31) (rv_len Tryz.underlying28 rfl) (st_g (v := (B ((r12.length : Int) == 0))) (congrArg some hb31) (rv_eql (a := (r12.length : Int)) (b := 0) rfl rfl) (st (v := (B ((r12.length : Int) == 0))) (rv_pick_f (congrArg B hb31) rfl) (w_end ?_))))
    obtain rfl := sj h
    exact ⟨rfl, _, σ30, fr_join ⟨rfl, rfl, rfl, rfl, rfl, rfl, rfl, trivial⟩, rfl, H.sel' [3, 4, 5, 0] rfl rfl⟩
  ·clear hj
   have h := h'
   clear h' H
   rintro e a w ⟨rfl, ρ, σ32, rfl, rfl, H⟩
   refine q_then ?_
   refine cd_cond o18 rfl (fun hb33 => ?_) (fun hb33 => ?_)
   ·replace h := bif_t hb33 h
    refine c_seq (rg (sm (Sl a15 r12 c16) rfl (sm (Sl a5 r2.1 c6) rfl (sm (Sl a7 r2.2.1 c8) rfl (sm (Sl a9 r2.2.2.1 c10) rfl (sm (I r2.2.2.2.1) rfl (sm (I r2.2.2.2.2) rfl ?_)))))))
    obtain ⟨σ34, hw35, H, -⟩ := H.pub 0 rfl (Nat.le_refl _)
    rw [← hw35]; clear hw35
    obtain ⟨σ36, hw37, H, -⟩ := H.pub 1 rfl (Nat.le_refl _)
    rw [← hw37]; clear hw37
    obtain ⟨σ38, hw39, H, -⟩ := H.pub 2 rfl (Nat.le_refl _)
    rw [← hw39]; clear hw39
    replace H := H.roLow 2 0 rfl (Nat.zero_le _)
    replace H := H.roLow 2 0 rfl (Nat.zero_le _)
    replace H := H.roLow 2 0 rfl (Nat.zero_le _)
    revert h; refine br fun r40 hx41 h => ?_
    have hc42 := c_spec_HashNearest (Br := a5) (Bs := c6) (Aq := a7) (Ar := c8) (Bt := a9) (Bu := c10) hx41
    refine st_call (cx_call hc42 (ent_f hc42.fn rfl) hn0 (H.sel' [2, 1, 0, 0, 1, 2, 3, 4, 5, 6] rfl rfl : Hp S0 σ0 _ ([_, _, _] ++ _))) wn ?_
    rintro _ σ45 ⟨_, ⟨a43, c44, rfl, rfl⟩, H, -⟩
    replace H : Hp _ _ _ [_, _, _, _, _, _, _, _] := H
    replace H : Hp S0 σ0 σ45 [Ch.own n0 n0 (Sl a43 r40 c44) r40, Ch.own 0 n0 (Sl a15 r12 c16) r12] := H.sel' [0, 7] rfl rfl
    replace H := H.ownLow 1 0 0 rfl (Nat.le_refl _) (Nat.zero_le _)
    obtain ⟨σ46, hw47, H, -⟩ := H.pub 0 rfl (Nat.le_refl _)
    rw [← hw47]; clear hw47
    obtain ⟨σ48, hw49, H, -⟩ := H.pub 1 rfl (Nat.le_refl _)
    rw [← hw49]; clear hw49
    replace H := H.roLow 0 0 rfl (Nat.zero_le _)
    revert h; refine br fun r50 hx51 h => ?_
    have hc52 := c_laws_equalHits (Fr := a15) (Fs := c16) (Ft := a43) (Fu := c44) hx51
    refine st_call (cx_call hc52 (ent_f hc52.fn rfl) hn0 (H.sel' [2, 0, 0, 1, 2] rfl rfl : Hp S0 σ0 _ ([_, _] ++ _))) wn ?_
    rintro _ σ53 ⟨_, ⟨rfl, rfl⟩, H, -⟩
    replace H : Hp _ _ _ [_, _, _] := H
    refine sa (B r50) rfl (w_end (q_then (c_ret (q_then_r ?_))))
    obtain rfl := sj h
    exact fin_ret (v := (B r50)) (results_ok Tryz.results3 (res_tmp (v := (B r50)) rfl res_nil) rfl) ⟨rfl, rfl⟩ (H.sel' [] rfl rfl)
   ·replace h := bif_f hb33 h
    refine c_skip (q_then (c_seq (rg (sm (Sl a5 r2.1 c6) rfl (sm (Sl a7 r2.2.1 c8) rfl (sm (Sl a9 r2.2.2.1 c10) rfl (sm (I r2.2.2.2.1) rfl ?_)))))))
    revert h; refine br fun r54 hx55 h => ?_
    have hc56 := c_impl_BucketOf (Br := a5) (Bs := c6) (Aq := a7) (Ar := c8) (Bt := a9) (Bu := c10) hx55
    have hle := Nat.le_trans hn0 H.size
    refine st_call (cx_lend (Loan.lend (Loan.lend (Loan.lend Loan.nil))) hc56 (ent_f hc56.fn rfl) (show Hp S0 σ0 _ ([Ch.own n0 n0 (Sl a5 r2.1 c6) r2.1, Ch.own n0 n0 (Sl a7 r2.2.1 c8) r2.2.1, Ch.own n0 n0 (Sl a9 r2.2.2.1 c10) r2.2.2.1] ++ ([] ++ [Ch.own 0 n0 (Sl a15 r12 c16) r12])) from (H.sel' [0, 1, 2, 3] rfl rfl)) (by rintro _ _ _ ⟨_, _, rfl, rfl, _⟩; exact ⟨Ab.ownSc, trivial⟩)) wn ?_
    rintro _ σ60 ⟨_, ⟨a57, c58, rfl, rfl, ht59⟩, H, -, -⟩
    replace H : Hp _ _ _ [_, _, _, _, _] := H
    replace H := H.ownLow 0 n0 n0 rfl hle hle
    clear hle
    replace H : Hp _ _ _ [_, _, _, _, _] := H
    refine sa (Sl a57 r54 c58) rfl (w_end (q_then (c_seq (c_seq (rg (sa (I 0) rfl (w_end (q_then ?_))))))))
    obtain ⟨o61, hj, h'⟩ := bind_some h
    clear h
    refine c_cut (fun e a w => (∃ t, o61 = (.inl t) ∧ e = .normal ∧ ∃ (ρ : Nat → Value) (σ : St), a = fr 97 (updL ρ [(3, (Sl a5 r2.1 c6)), (4, (Sl a7 r2.2.1 c8)), (5, (Sl a9 r2.2.2.1 c10)), (7, (I r2.2.2.2.2))]) ∧ w = σ.w ∧ Hp S0 σ0 σ [Ch.own n0 n0 (Sl a5 r2.1 c6) r2.1, Ch.ro n0 (Sl a7 r2.2.1 c8) r2.2.1, Ch.ro n0 (Sl a9 r2.2.2.1 c10) r2.2.2.1]) ∨ (∃ t, o61 = (.inr t) ∧ e = .ret ∧ ∃ (ρ : Nat → Value) (σ : St), a = fr 97 (updL ρ [(2, (B t))]) ∧ w = σ.w ∧ Hp S0 σ0 σ [])) ?_ ?_
    ·clear h'
     rename _ = some o61 => h
     refine c_blk ?_
     obtain ⟨σ63, hw64, H, -⟩ := H.pub 2 rfl (Nat.le_refl _)
     rw [← hw64]; clear hw64
     obtain ⟨σ65, hw66, H, -⟩ := H.pub 3 rfl (Nat.le_refl _)
     rw [← hw66]; clear hw66
     obtain ⟨σ67, hw68, H, -⟩ := H.pub 2 rfl (Nat.le_refl _)
     rw [← hw68]; clear hw68
     refine wp_loopM _ h (fun s62 a w => ∃ (ρ : Nat → Value) (σ : St), a = fr 97 (updL ρ [(3, (Sl a5 r2.1 c6)), (4, (Sl a7 r2.2.1 c8)), (5, (Sl a9 r2.2.2.1 c10)), (7, (I r2.2.2.2.2)), (8, (Sl a15 r12 c16)), (9, (Sl a57 r54 c58)), (10, (I s62))]) ∧ w = σ.w ∧ Hp S0 σ0 σ [Ch.own n0 n0 (Sl a5 r2.1 c6) r2.1, Ch.ro n0 (Sl a7 r2.2.1 c8) r2.2.1, Ch.ro n0 (Sl a9 r2.2.2.1 c10) r2.2.2.1, Ch.own 0 n0 (Sl a15 r12 c16) r12, Ch.ro n0 (Sl a57 r54 c58) r54]) ⟨_, σ67, fr_join ⟨rfl, rfl, rfl, rfl, rfl, rfl, rfl, trivial⟩, rfl, H.sel' [3, 2, 1, 4, 0] rfl rfl⟩ ?_
     clear h H
     rintro s62 a w o ⟨ρ, σ69, rfl, rfl, H⟩ h hres
     refine c_seq (c_seq (rg (sm (I s62) rfl (sm (Sl a15 r12 c16) rfl (st (v := (I (r12.length : Int))) (rv_len Tryz.underlying28 rfl) (st (v := (B (decide (s62 < (r12.length : Int))))) (rv_lss (a := s62) (b := (r12.length : Int)) rfl rfl) (w_end (q_then ?_))))))))
     refine cd_cond (decide (s62 < (r12.length : Int))) rfl (fun hb70 => ?_) (fun hb70 => ?_)
     ·replace h := bif_t hb70 h
      refine c_skip (q_then (c_seq (c_blk (c_seq ?_))))
      obtain ⟨o71, hj, h'⟩ := bind_some h
      clear h
      refine c_cut (fun e a w => e = .normal ∧ ∃ (ρ : Nat → Value) (σ : St), a = fr 97 (updL ρ [(3, (Sl a5 r2.1 c6)), (4, (Sl a7 r2.2.1 c8)), (5, (Sl a9 r2.2.2.1 c10)), (7, (I r2.2.2.2.2)), (8, (Sl a15 r12 c16)), (9, (Sl a57 r54 c58)), (10, (I s62)), (86, (B o71))]) ∧ w = σ.w ∧ Hp S0 σ0 σ [Ch.own n0 n0 (Sl a5 r2.1 c6) r2.1, Ch.ro n0 (Sl a7 r2.2.1 c8) r2.2.1, Ch.ro n0 (Sl a9 r2.2.2.1 c10) r2.2.2.1, Ch.own 0 n0 (Sl a15 r12 c16) r12, Ch.ro n0 (Sl a57 r54 c58) r54]) ?_ ?_
      ·clear h'
       rename _ = some o71 => h
       revert h; refine br fun x72 hx73 h => ?_
       obtain ⟨b75, o76, hi74, -⟩ := (H.own 3 rfl).ix hx73
       have hc77 := ((H.own 3 rfl).at hx73 hi74).fst.int
       replace H := H.roLow 4 0 rfl (Nat.zero_le _)
       revert h; refine br fun r78 hx79 h => ?_
       have hc80 := c_laws_isIn (Au := a57) (Av := c58) hx79
       rcases Bool.eq_false_or_eq_true (!r78) with hb81 | hb81
       ·replace h := bif_t hb81 h
        have Hs := H
        refine rg2 (σ := σ69) (Nm := Unit) 24 [6] [[false], [true]] [[(0, 0)], [(0, 0)], [(0, 0)], [(0, 0)], [(0, 0)], [(0, 0)], [(0, 1)], [(1, 1)], [(1, 1)], [(1, 1)], [(1, 1)], [(1, 1)], [(1, 1)], [(1, 1)], [(1, 1)], [(1, 1)], [(1, 1)], [(1, 1)], [(1, 1)], [(1, 1)], [(1, 1)], [(1, 1)], [(1, 1)], [(1, 1)]] 1 [fun _ => fun σm => Hp S0 σ0 σm [Ch.ro 0 (Sl a57 r54 c58) r54, Ch.own n0 n0 (Sl a5 r2.1 c6) r2.1, Ch.ro n0 (Sl a7 r2.2.1 c8) r2.2.1, Ch.ro n0 (Sl a9 r2.2.2.1 c10) r2.2.2.1, Ch.own 0 n0 (Sl a15 r12 c16) r12, Ch.ro n0 (Sl a57 r54 c58) r54] ∧ Md (cov []) σ69 σm, fun _ => fun σm => Hp S0 σ0 σm [Ch.ro 0 (Sl a57 r54 c58) r54, Ch.own n0 n0 (Sl a5 r2.1 c6) r2.1, Ch.ro n0 (Sl a7 r2.2.1 c8) r2.2.1, Ch.ro n0 (Sl a9 r2.2.2.1 c10) r2.2.2.1, Ch.own 0 n0 (Sl a15 r12 c16) r12, Ch.ro n0 (Sl a57 r54 c58) r54] ∧ Md (cov []) σ69 σm] [fun _ => (Sl a57 r54 c58), fun _ => (Sl a15 r12 c16), fun _ => (I s62), fun _ => (pt b75 o76), fun _ => (pt b75 (o76 + 0)), fun _ => (I x72.1), fun _ => (B r78), fun _ => (B (!r78)), fun _ => (B (!r78)), fun _ => undef, fun _ => undef, fun _ => undef, fun _ => undef, fun _ => undef, fun _ => undef, fun _ => undef, fun _ => undef, fun _ => undef, fun _ => undef, fun _ => undef, fun _ => undef, fun _ => undef, fun _ => undef, fun _ => undef] () (by kernel_rfl) (by kernel_rfl) ?_ ?_ ?_
        ·intro σm m0
         exact ⟨H.grow (m0.mono fun _ h => h.elim), m0⟩
        ·refine ac rfl (by
           intro k _nm ρ σm hJ hoff hdep
           have e9 := look_off (N := 97) (hoff 9 rfl) rfl
           exact dp_v (v := (Sl a57 r54 c58)) wn (rv_move e9) rfl hJ) ?_
         refine ac rfl (by
           intro k _nm ρ σm hJ hoff hdep
           have e8 := look_off (N := 97) (hoff 8 rfl) rfl
           exact dp_v (v := (Sl a15 r12 c16)) wn (rv_move e8) rfl hJ) ?_
         refine ac rfl (by
           intro k _nm ρ σm hJ hoff hdep
           have e10 := look_off (N := 97) (hoff 10 rfl) rfl
           exact dp_v (v := (I s62)) wn (rv_move e10) rfl hJ) ?_
         refine ac rfl (by
           intro k _nm ρ σm hJ hoff hdep
           have e62 := hdep 1 rfl rfl 62 rfl
           have e63 := hdep 2 rfl rfl 63 rfl
           exact dp_v (v := (pt b75 o76)) wn (rv_ix Tryz.underlying28 ti34 e62 e63 hi74) rfl hJ) ?_
         refine ac rfl (by
           intro k _nm ρ σm hJ hoff hdep
           have e64 := hdep 3 rfl rfl 64 rfl
           exact dp_v (v := (pt b75 (o76 + 0))) wn (rv_fieldAddr (off := 0) (ft := 3) Tryz.underlying34 rfl ti3 rfl e64) rfl hJ) ?_
         refine all_cons (by
           refine ⟨?_, ?_⟩
           ·intro _nm ρ σm hJ hoff hdep
            have e65 := hdep 4 rfl rfl 65 rfl
            obtain ⟨H, m⟩ := id hJ
            have hc77 := ((H.own 4 rfl).at hx73 hi74).fst.int
            exact dp_v (v := (I x72.1)) wn (rv_load1 Tryz.underlying3 rfl e65 hc77) rfl hJ
           trivial) ?_
         refine all_cons (by
           refine ⟨?_, ?_⟩
           ·intro _nm ρ σm hJ hoff hdep
            have e61 : look 97 ρ 61 = (Sl a57 r54 c58) := hdep 0 rfl rfl 61 rfl
            have e66 : look 97 ρ 66 = (I x72.1) := hdep 5 rfl rfl 66 rfl
            obtain ⟨H, m⟩ := id hJ
            refine dp_cx wn (cx_call hc80 (ent_f hc80.fn (by show [look 97 ρ 61, look 97 ρ 66] = _; rw [e61, e66])) hn0 (H.sel' [0, 0, 1, 2, 3, 4, 5] rfl rfl : Hp S0 σ0 _ ([_] ++ _))) ?_
            rintro _ σq ⟨_, ⟨rfl, rfl⟩, H2, m2⟩
            exact ⟨_, (), rfl, rfl, ⟨H2.sel' [0, 1, 2, 3, 4, 5] rfl rfl, m.comp0 (m2.mono (fun i h => by simp [cov, Ch.ro] at h))⟩, stab [0, 1, 2, 3, 4, 5] (by kernel_rfl) ⟨rfl, rfl, rfl, rfl, rfl, rfl, trivial⟩⟩
           trivial) ?_
         refine ac rfl (by
           intro k _nm ρ σm hJ hoff hdep
           have e67 := hdep 6 rfl rfl 67 rfl
           exact dp_v (v := (B (!r78))) wn (rv_not e67) rfl hJ) ?_
         refine ac rfl (by
           intro k _nm ρ σm hJ hoff hdep
           have e68 := hdep 7 rfl rfl 68 rfl
           exact dp_v (v := (B (!r78))) wn (rv_move e68) rfl hJ) ?_
         refine ac rfl (by
           intro k _nm ρ σm hJ hoff hdep
           have e69 := hdep 8 rfl rfl 69 rfl
           exact dp_skip (wanted_no rfl (yv_of rfl (e69.trans (congrArg B hb81)))) rfl hJ) ?_
         refine ac rfl (by
           intro k _nm ρ σm hJ hoff hdep
           have e69 := hdep 8 rfl rfl 69 rfl
           exact dp_skip (wanted_no rfl (yv_of rfl (e69.trans (congrArg B hb81)))) rfl hJ) ?_
         refine ac rfl (by
           intro k _nm ρ σm hJ hoff hdep
           have e69 := hdep 8 rfl rfl 69 rfl
           exact dp_skip (wanted_no rfl (yv_of rfl (e69.trans (congrArg B hb81)))) rfl hJ) ?_
         refine ac rfl (by
           intro k _nm ρ σm hJ hoff hdep
           have e69 := hdep 8 rfl rfl 69 rfl
           exact dp_skip (wanted_no rfl (yv_of rfl (e69.trans (congrArg B hb81)))) rfl hJ) ?_
         refine ac rfl (by
           intro k _nm ρ σm hJ hoff hdep
           have e69 := hdep 8 rfl rfl 69 rfl
           exact dp_skip (wanted_no rfl (yv_of rfl (e69.trans (congrArg B hb81)))) rfl hJ) ?_
         refine ac rfl (by
           intro k _nm ρ σm hJ hoff hdep
           have e69 := hdep 8 rfl rfl 69 rfl
           exact dp_skip (wanted_no rfl (yv_of rfl (e69.trans (congrArg B hb81)))) rfl hJ) ?_
         refine ac rfl (by
           intro k _nm ρ σm hJ hoff hdep
           have e69 := hdep 8 rfl rfl 69 rfl
           exact dp_skip (wanted_no rfl (yv_of rfl (e69.trans (congrArg B hb81)))) rfl hJ) ?_
         refine ac rfl (by
           intro k _nm ρ σm hJ hoff hdep
           have e69 := hdep 8 rfl rfl 69 rfl
           exact dp_skip (wanted_no rfl (yv_of rfl (e69.trans (congrArg B hb81)))) rfl hJ) ?_
         refine ac rfl (by
           intro k _nm ρ σm hJ hoff hdep
           have e69 := hdep 8 rfl rfl 69 rfl
           exact dp_skip (wanted_no rfl (yv_of rfl (e69.trans (congrArg B hb81)))) rfl hJ) ?_
         refine ac rfl (by
           intro k _nm ρ σm hJ hoff hdep
           have e69 := hdep 8 rfl rfl 69 rfl
           exact dp_skip (wanted_no rfl (yv_of rfl (e69.trans (congrArg B hb81)))) rfl hJ) ?_
         refine ac rfl (by
           intro k _nm ρ σm hJ hoff hdep
           have e69 := hdep 8 rfl rfl 69 rfl
           exact dp_skip (wanted_no rfl (yv_of rfl (e69.trans (congrArg B hb81)))) rfl hJ) ?_
         refine ac rfl (by
           intro k _nm ρ σm hJ hoff hdep
           have e69 := hdep 8 rfl rfl 69 rfl
           exact dp_skip (wanted_no rfl (yv_of rfl (e69.trans (congrArg B hb81)))) rfl hJ) ?_
         refine ac rfl (by
           intro k _nm ρ σm hJ hoff hdep
           have e69 := hdep 8 rfl rfl 69 rfl
           exact dp_skip (wanted_no rfl (yv_of rfl (e69.trans (congrArg B hb81)))) rfl hJ) ?_
         refine ac rfl (by
           intro k _nm ρ σm hJ hoff hdep
           have e69 := hdep 8 rfl rfl 69 rfl
           exact dp_skip (wanted_no rfl (yv_of rfl (e69.trans (congrArg B hb81)))) rfl hJ) ?_
         refine ac rfl (by
           intro k _nm ρ σm hJ hoff hdep
           have e69 := hdep 8 rfl rfl 69 rfl
           exact dp_skip (wanted_no rfl (yv_of rfl (e69.trans (congrArg B hb81)))) rfl hJ) ?_
         exact all_nil
        ·intro _nm ρ σ82 hJ hoff hrel
         have e3 := look_off (N := 97) (hoff 3 rfl) rfl
         have e4 := look_off (N := 97) (hoff 4 rfl) rfl
         have e5 := look_off (N := 97) (hoff 5 rfl) rfl
         have e7 := look_off (N := 97) (hoff 7 rfl) rfl
         have e8 := look_off (N := 97) (hoff 8 rfl) rfl
         have e9 := look_off (N := 97) (hoff 9 rfl) rfl
         have e10 := look_off (N := 97) (hoff 10 rfl) rfl
         have e69 := hrel 8 rfl 69 rfl
         have e79 := hrel 18 rfl 79 rfl
         have e84 := hrel 23 rfl 84 rfl
         obtain ⟨H, -⟩ := (show Hp S0 σ0 σ82 [Ch.ro 0 (Sl a57 r54 c58) r54, Ch.own n0 n0 (Sl a5 r2.1 c6) r2.1, Ch.ro n0 (Sl a7 r2.2.1 c8) r2.2.1, Ch.ro n0 (Sl a9 r2.2.2.1 c10) r2.2.2.1, Ch.own 0 n0 (Sl a15 r12 c16) r12, Ch.ro n0 (Sl a57 r54 c58) r54] ∧ Md (cov []) σ69 σ82 from hJ)
         clear hJ Hs
         rw [fr_lookL (L := [(3, (Sl a5 r2.1 c6)), (4, (Sl a7 r2.2.1 c8)), (5, (Sl a9 r2.2.2.1 c10)), (7, (I r2.2.2.2.2)), (8, (Sl a15 r12 c16)), (9, (Sl a57 r54 c58)), (10, (I s62)), (69, (B (!r78))), (79, undef), (84, undef)]) ⟨e3, e4, e5, e7, e8, e9, e10, e69, e79, e84, trivial⟩]
         clear hoff hrel e3 e4 e5 e7 e8 e9 e10 e69 e79 e84
         refine st_skip (congrArg some hb81) (st (v := (B true)) (rv_pick_t (congrArg B hb81) rfl) (w_end ?_))
         obtain rfl := sj h
         exact ⟨rfl, _, σ82, fr_join ⟨rfl, rfl, rfl, rfl, rfl, rfl, rfl, rfl, trivial⟩, rfl, H.sel' [1, 2, 3, 4, 5] rfl rfl⟩
       ·replace h := bif_f hb81 h
        revert h; refine br fun x83 hx84 h => ?_
        obtain ⟨b86, o87, hi85, -⟩ := (H.own 4 rfl).ix hx84
        have hc88 := ((H.own 4 rfl).at hx84 hi85).fst.int
        replace H := H.roLow 2 0 rfl (Nat.zero_le _)
        revert h; refine br fun r89 hx90 h => ?_
        have hc91 := c_laws_itemOf (Au := a7) (Av := c8) hx90
        replace H := H.roLow 4 0 rfl (Nat.zero_le _)
        revert h; refine br fun r94 hx95 h => ?_
        have hc96 := fun (a92 : Option Addr) (c93 : Nat) => c_impl_Distance (Eg := a92) (Eh := c93) (Ei := a9) (Ej := c10) hx95
        revert h; refine br fun x97 hx98 h => ?_
        obtain ⟨b100, o101, hi99, -⟩ := (H.own 6 rfl).ix hx98
        have hc102 := ((H.own 6 rfl).at hx98 hi99).snd.int
        have Hs := H
        refine rg2 (σ := σ69) (Nm := (Option Addr) × (Nat)) 24 [6, 15, 18] [[false, false, false], [true, false, false], [true, true, false], [true, true, true]] [[(0, 0)], [(0, 0)], [(0, 0)], [(0, 0)], [(0, 0)], [(0, 0)], [(0, 1)], [(1, 1)], [(1, 1)], [(1, 1)], [(1, 1)], [(1, 1)], [(1, 1)], [(1, 1)], [(1, 1)], [(1, 2)], [(2, 2)], [(1, 1), (2, 2)], [(2, 3)], [(1, 1), (2, 2), (3, 3)], [(1, 1), (2, 2), (3, 3)], [(1, 1), (2, 2), (3, 3)], [(1, 1), (2, 2), (3, 3)], [(1, 1), (2, 2), (3, 3)]] 3 [fun ((a92, c93) : (Option Addr) × (Nat)) => fun σm => Hp S0 σ0 σm [Ch.ro 0 (Sl a9 r2.2.2.1 c10) r2.2.2.1, Ch.ro 0 (Sl a7 r2.2.1 c8) r2.2.1, Ch.ro 0 (Sl a57 r54 c58) r54, Ch.own n0 n0 (Sl a5 r2.1 c6) r2.1, Ch.ro n0 (Sl a7 r2.2.1 c8) r2.2.1, Ch.ro n0 (Sl a9 r2.2.2.1 c10) r2.2.2.1, Ch.own 0 n0 (Sl a15 r12 c16) r12, Ch.ro n0 (Sl a57 r54 c58) r54] ∧ Md (cov []) σ69 σm, fun ((a92, c93) : (Option Addr) × (Nat)) => fun σm => Hp S0 σ0 σm [Ch.ro 0 (Sl a9 r2.2.2.1 c10) r2.2.2.1, Ch.ro 0 (Sl a7 r2.2.1 c8) r2.2.1, Ch.ro 0 (Sl a57 r54 c58) r54, Ch.own n0 n0 (Sl a5 r2.1 c6) r2.1, Ch.ro n0 (Sl a7 r2.2.1 c8) r2.2.1, Ch.ro n0 (Sl a9 r2.2.2.1 c10) r2.2.2.1, Ch.own 0 n0 (Sl a15 r12 c16) r12, Ch.ro n0 (Sl a57 r54 c58) r54] ∧ Md (cov []) σ69 σm, fun ((a92, c93) : (Option Addr) × (Nat)) => fun σm => Hp S0 σ0 σm [Ch.ro 0 (Sl a92 r89.2.1 c93) r89.2.1, Ch.ro 0 (Sl a9 r2.2.2.1 c10) r2.2.2.1, Ch.ro 0 (Sl a7 r2.2.1 c8) r2.2.1, Ch.ro 0 (Sl a57 r54 c58) r54, Ch.own n0 n0 (Sl a5 r2.1 c6) r2.1, Ch.ro n0 (Sl a7 r2.2.1 c8) r2.2.1, Ch.ro n0 (Sl a9 r2.2.2.1 c10) r2.2.2.1, Ch.own 0 n0 (Sl a15 r12 c16) r12, Ch.ro n0 (Sl a57 r54 c58) r54] ∧ Md (cov []) σ69 σm, fun ((a92, c93) : (Option Addr) × (Nat)) => fun σm => Hp S0 σ0 σm [Ch.ro 0 (Sl a92 r89.2.1 c93) r89.2.1, Ch.ro 0 (Sl a9 r2.2.2.1 c10) r2.2.2.1, Ch.ro 0 (Sl a7 r2.2.1 c8) r2.2.1, Ch.ro 0 (Sl a57 r54 c58) r54, Ch.own n0 n0 (Sl a5 r2.1 c6) r2.1, Ch.ro n0 (Sl a7 r2.2.1 c8) r2.2.1, Ch.ro n0 (Sl a9 r2.2.2.1 c10) r2.2.2.1, Ch.own 0 n0 (Sl a15 r12 c16) r12, Ch.ro n0 (Sl a57 r54 c58) r54] ∧ Md (cov []) σ69 σm] [fun ((a92, c93) : (Option Addr) × (Nat)) => (Sl a57 r54 c58), fun ((a92, c93) : (Option Addr) × (Nat)) => (Sl a15 r12 c16), fun ((a92, c93) : (Option Addr) × (Nat)) => (I s62), fun ((a92, c93) : (Option Addr) × (Nat)) => (pt b75 o76), fun ((a92, c93) : (Option Addr) × (Nat)) => (pt b75 (o76 + 0)), fun ((a92, c93) : (Option Addr) × (Nat)) => (I x72.1), fun ((a92, c93) : (Option Addr) × (Nat)) => (B r78), fun ((a92, c93) : (Option Addr) × (Nat)) => (B (!r78)), fun ((a92, c93) : (Option Addr) × (Nat)) => (B (!r78)), fun ((a92, c93) : (Option Addr) × (Nat)) => (Sl a7 r2.2.1 c8), fun ((a92, c93) : (Option Addr) × (Nat)) => (Sl a15 r12 c16), fun ((a92, c93) : (Option Addr) × (Nat)) => (I s62), fun ((a92, c93) : (Option Addr) × (Nat)) => (pt b86 o87), fun ((a92, c93) : (Option Addr) × (Nat)) => (pt b86 (o87 + 0)), fun ((a92, c93) : (Option Addr) × (Nat)) => (I x83.1), fun ((a92, c93) : (Option Addr) × (Nat)) => (.agg #[(I r89.1), (Sl a92 r89.2.1 c93), (I r89.2.2)]), fun ((a92, c93) : (Option Addr) × (Nat)) => (Sl a92 r89.2.1 c93), fun ((a92, c93) : (Option Addr) × (Nat)) => (Sl a9 r2.2.2.1 c10), fun ((a92, c93) : (Option Addr) × (Nat)) => (I r94), fun ((a92, c93) : (Option Addr) × (Nat)) => (Sl a15 r12 c16), fun ((a92, c93) : (Option Addr) × (Nat)) => (I s62), fun ((a92, c93) : (Option Addr) × (Nat)) => (pt b100 o101), fun ((a92, c93) : (Option Addr) × (Nat)) => (pt b100 (o101 + 1)), fun ((a92, c93) : (Option Addr) × (Nat)) => (I x97.2)] (none, 0) (by kernel_rfl) (by kernel_rfl) ?_ ?_ ?_
        ·intro σm m0
         exact ⟨H.grow (m0.mono fun _ h => h.elim), m0⟩
        ·refine ac rfl (by
           intro k; rintro ⟨a92, c93⟩ ρ σm hJ hoff hdep
           have e9 := look_off (N := 97) (hoff 9 rfl) rfl
           exact dp_v (v := (Sl a57 r54 c58)) wn (rv_move e9) rfl hJ) ?_
         refine ac rfl (by
           intro k; rintro ⟨a92, c93⟩ ρ σm hJ hoff hdep
           have e8 := look_off (N := 97) (hoff 8 rfl) rfl
           exact dp_v (v := (Sl a15 r12 c16)) wn (rv_move e8) rfl hJ) ?_
         refine ac rfl (by
           intro k; rintro ⟨a92, c93⟩ ρ σm hJ hoff hdep
           have e10 := look_off (N := 97) (hoff 10 rfl) rfl
           exact dp_v (v := (I s62)) wn (rv_move e10) rfl hJ) ?_
         refine ac rfl (by
           intro k; rintro ⟨a92, c93⟩ ρ σm hJ hoff hdep
           have e62 := hdep 1 rfl rfl 62 rfl
           have e63 := hdep 2 rfl rfl 63 rfl
           exact dp_v (v := (pt b75 o76)) wn (rv_ix Tryz.underlying28 ti34 e62 e63 hi74) rfl hJ) ?_
         refine ac rfl (by
           intro k; rintro ⟨a92, c93⟩ ρ σm hJ hoff hdep
           have e64 := hdep 3 rfl rfl 64 rfl
           exact dp_v (v := (pt b75 (o76 + 0))) wn (rv_fieldAddr (off := 0) (ft := 3) Tryz.underlying34 rfl ti3 rfl e64) rfl hJ) ?_
         refine all_cons (by
           refine ⟨?_, ?_⟩
           ·rintro ⟨a92, c93⟩ ρ σm hJ hoff hdep
            have e65 := hdep 4 rfl rfl 65 rfl
            obtain ⟨H, m⟩ := id hJ
            have hc77 := ((H.own 6 rfl).at hx73 hi74).fst.int
            exact dp_v (v := (I x72.1)) wn (rv_load1 Tryz.underlying3 rfl e65 hc77) rfl hJ
           trivial) ?_
         refine all_cons (by
           refine ⟨?_, ?_⟩
           ·rintro ⟨a92, c93⟩ ρ σm hJ hoff hdep
            have e61 : look 97 ρ 61 = (Sl a57 r54 c58) := hdep 0 rfl rfl 61 rfl
            have e66 : look 97 ρ 66 = (I x72.1) := hdep 5 rfl rfl 66 rfl
            obtain ⟨H, m⟩ := id hJ
            refine dp_cx wn (cx_call hc80 (ent_f hc80.fn (by show [look 97 ρ 61, look 97 ρ 66] = _; rw [e61, e66])) hn0 (H.sel' [2, 0, 1, 2, 3, 4, 5, 6, 7] rfl rfl : Hp S0 σ0 _ ([_] ++ _))) ?_
            rintro _ σq ⟨_, ⟨rfl, rfl⟩, H2, m2⟩
            exact ⟨_, (a92, c93), rfl, rfl, ⟨H2.sel' [0, 1, 2, 3, 4, 5, 6, 7] rfl rfl, m.comp0 (m2.mono (fun i h => by simp [cov, Ch.ro] at h))⟩, stab [0, 1, 2, 3, 4, 5] (by kernel_rfl) ⟨rfl, rfl, rfl, rfl, rfl, rfl, trivial⟩⟩
           trivial) ?_
         refine ac rfl (by
           intro k; rintro ⟨a92, c93⟩ ρ σm hJ hoff hdep
           have e67 := hdep 6 rfl rfl 67 rfl
           exact dp_v (v := (B (!r78))) wn (rv_not e67) rfl hJ) ?_
         refine ac rfl (by
           intro k; rintro ⟨a92, c93⟩ ρ σm hJ hoff hdep
           have e68 := hdep 7 rfl rfl 68 rfl
           exact dp_v (v := (B (!r78))) wn (rv_move e68) rfl hJ) ?_
         refine ac rfl (by
           intro k; rintro ⟨a92, c93⟩ ρ σm hJ hoff hdep
           have e4 := look_off (N := 97) (hoff 4 rfl) rfl
           have e69 := hdep 8 rfl rfl 69 rfl
           exact dp_v (v := (Sl a7 r2.2.1 c8)) (wanted_yes rfl (yv_of rfl (e69.trans (congrArg B hb81)))) (rv_move e4) rfl hJ) ?_
         refine ac rfl (by
           intro k; rintro ⟨a92, c93⟩ ρ σm hJ hoff hdep
           have e8 := look_off (N := 97) (hoff 8 rfl) rfl
           have e69 := hdep 8 rfl rfl 69 rfl
           exact dp_v (v := (Sl a15 r12 c16)) (wanted_yes rfl (yv_of rfl (e69.trans (congrArg B hb81)))) (rv_move e8) rfl hJ) ?_
         refine ac rfl (by
           intro k; rintro ⟨a92, c93⟩ ρ σm hJ hoff hdep
           have e10 := look_off (N := 97) (hoff 10 rfl) rfl
           have e69 := hdep 8 rfl rfl 69 rfl
           exact dp_v (v := (I s62)) (wanted_yes rfl (yv_of rfl (e69.trans (congrArg B hb81)))) (rv_move e10) rfl hJ) ?_
         refine ac rfl (by
           intro k; rintro ⟨a92, c93⟩ ρ σm hJ hoff hdep
           have e71 := hdep 10 rfl rfl 71 rfl
           have e72 := hdep 11 rfl rfl 72 rfl
           have e69 := hdep 8 rfl rfl 69 rfl
           exact dp_v (v := (pt b86 o87)) (wanted_yes rfl (yv_of rfl (e69.trans (congrArg B hb81)))) (rv_ix Tryz.underlying28 ti34 e71 e72 hi85) rfl hJ) ?_
         refine ac rfl (by
           intro k; rintro ⟨a92, c93⟩ ρ σm hJ hoff hdep
           have e73 := hdep 12 rfl rfl 73 rfl
           have e69 := hdep 8 rfl rfl 69 rfl
           exact dp_v (v := (pt b86 (o87 + 0))) (wanted_yes rfl (yv_of rfl (e69.trans (congrArg B hb81)))) (rv_fieldAddr (off := 0) (ft := 3) Tryz.underlying34 rfl ti3 rfl e73) rfl hJ) ?_
         refine all_cons (by
           refine ⟨?_, ?_⟩
           ·rintro ⟨a92, c93⟩ ρ σm hJ hoff hdep
            have e74 := hdep 13 rfl rfl 74 rfl
            have e69 := hdep 8 rfl rfl 69 rfl
            obtain ⟨H, m⟩ := id hJ
            have hc88 := ((H.own 6 rfl).at hx84 hi85).fst.int
            exact dp_v (v := (I x83.1)) (wanted_yes rfl (yv_of rfl (e69.trans (congrArg B hb81)))) (rv_load1 Tryz.underlying3 rfl e74 hc88) rfl hJ
           trivial) ?_
         refine all_cons (by
           refine ⟨?_, ?_⟩
           ·rintro ⟨a92, c93⟩ ρ σm hJ hoff hdep
            have e70 : look 97 ρ 70 = (Sl a7 r2.2.1 c8) := hdep 9 rfl rfl 70 rfl
            have e75 : look 97 ρ 75 = (I x83.1) := hdep 14 rfl rfl 75 rfl
            have e69 := hdep 8 rfl rfl 69 rfl
            obtain ⟨H, m⟩ := id hJ
            refine dp_cx (wanted_yes rfl (yv_of rfl (e69.trans (congrArg B hb81)))) (cx_call hc91 (ent_f hc91.fn (by show [look 97 ρ 70, look 97 ρ 75] = _; rw [e70, e75])) hn0 (H.sel' [1, 0, 1, 2, 3, 4, 5, 6, 7] rfl rfl : Hp S0 σ0 _ ([_] ++ _))) ?_
            rintro _ σq ⟨_, ⟨a92x, c93x, rfl, rfl⟩, H2, m2⟩
            exact ⟨_, (a92x, c93x), rfl, rfl, ⟨H2.sel' [0, 1, 2, 3, 4, 5, 6, 7, 8] rfl rfl, m.comp0 (m2.mono (fun i h => by simp [cov, Ch.ro] at h))⟩, stab [0, 1, 2, 3, 4, 5, 6, 7, 8, 9, 10, 11, 12, 13, 14, 17, 19, 20, 21, 22, 23] (by kernel_rfl) ⟨rfl, rfl, rfl, rfl, rfl, rfl, rfl, rfl, rfl, rfl, rfl, rfl, rfl, rfl, rfl, rfl, rfl, rfl, rfl, rfl, rfl, trivial⟩⟩
           trivial) ?_
         refine ac rfl (by
           intro k; rintro ⟨a92, c93⟩ ρ σm hJ hoff hdep
           have e76 := hdep 15 rfl rfl 76 rfl
           have e69 := hdep 8 rfl rfl 69 rfl
           exact dp_v (v := (Sl a92 r89.2.1 c93)) (wanted_yes rfl (yv_of rfl (e69.trans (congrArg B hb81)))) (rv_field (off := 1) (ft := 25) Tryz.underlying37 rfl Tryz.underlying25 rfl e76 rfl) rfl hJ) ?_
         refine ac rfl (by
           intro k; rintro ⟨a92, c93⟩ ρ σm hJ hoff hdep
           have e5 := look_off (N := 97) (hoff 5 rfl) rfl
           have e69 := hdep 8 rfl rfl 69 rfl
           exact dp_v (v := (Sl a9 r2.2.2.1 c10)) (wanted_yes rfl (yv_of rfl (e69.trans (congrArg B hb81)))) (rv_move e5) rfl hJ) ?_
         refine all_cons (by
           refine ⟨?_, ?_⟩
           ·rintro ⟨a92, c93⟩ ρ σm hJ hoff hdep
            have e77 : look 97 ρ 77 = (Sl a92 r89.2.1 c93) := hdep 16 rfl rfl 77 rfl
            have e78 : look 97 ρ 78 = (Sl a9 r2.2.2.1 c10) := hdep 17 rfl rfl 78 rfl
            have e69 := hdep 8 rfl rfl 69 rfl
            obtain ⟨H, m⟩ := id hJ
            refine dp_cx (wanted_yes rfl (yv_of rfl (e69.trans (congrArg B hb81)))) (cx_call (hc96 a92 c93) (ent_f (hc96 a92 c93).fn (by show [(I 3), look 97 ρ 77, look 97 ρ 78] = _; rw [e77, e78])) hn0 (H.sel' [0, 1, 0, 1, 2, 3, 4, 5, 6, 7, 8] rfl rfl : Hp S0 σ0 _ ([_, _] ++ _))) ?_
            rintro _ σq ⟨_, ⟨rfl, rfl⟩, H2, m2⟩
            exact ⟨_, (a92, c93), rfl, rfl, ⟨H2.sel' [0, 1, 2, 3, 4, 5, 6, 7, 8] rfl rfl, m.comp0 (m2.mono (fun i h => by simp [cov, Ch.ro] at h))⟩, stab [0, 1, 2, 3, 4, 5, 6, 7, 8, 9, 10, 11, 12, 13, 14, 15, 16, 17, 19, 20, 21, 22, 23] (by kernel_rfl) ⟨rfl, rfl, rfl, rfl, rfl, rfl, rfl, rfl, rfl, rfl, rfl, rfl, rfl, rfl, rfl, rfl, rfl, rfl, rfl, rfl, rfl, rfl, rfl, trivial⟩⟩
           trivial) ?_
         refine ac rfl (by
           intro k; rintro ⟨a92, c93⟩ ρ σm hJ hoff hdep
           have e8 := look_off (N := 97) (hoff 8 rfl) rfl
           have e69 := hdep 8 rfl rfl 69 rfl
           exact dp_v (v := (Sl a15 r12 c16)) (wanted_yes rfl (yv_of rfl (e69.trans (congrArg B hb81)))) (rv_move e8) rfl hJ) ?_
         refine ac rfl (by
           intro k; rintro ⟨a92, c93⟩ ρ σm hJ hoff hdep
           have e10 := look_off (N := 97) (hoff 10 rfl) rfl
           have e69 := hdep 8 rfl rfl 69 rfl
           exact dp_v (v := (I s62)) (wanted_yes rfl (yv_of rfl (e69.trans (congrArg B hb81)))) (rv_move e10) rfl hJ) ?_
         refine ac rfl (by
           intro k; rintro ⟨a92, c93⟩ ρ σm hJ hoff hdep
           have e80 := hdep 19 rfl rfl 80 rfl
           have e81 := hdep 20 rfl rfl 81 rfl
           have e69 := hdep 8 rfl rfl 69 rfl
           exact dp_v (v := (pt b100 o101)) (wanted_yes rfl (yv_of rfl (e69.trans (congrArg B hb81)))) (rv_ix Tryz.underlying28 ti34 e80 e81 hi99) rfl hJ) ?_
         refine ac rfl (by
           intro k; rintro ⟨a92, c93⟩ ρ σm hJ hoff hdep
           have e82 := hdep 21 rfl rfl 82 rfl
           have e69 := hdep 8 rfl rfl 69 rfl
           exact dp_v (v := (pt b100 (o101 + 1))) (wanted_yes rfl (yv_of rfl (e69.trans (congrArg B hb81)))) (rv_fieldAddr (off := 1) (ft := 3) Tryz.underlying34 rfl ti3 rfl e82) rfl hJ) ?_
         refine all_cons (by
           refine ⟨?_, ?_⟩
           ·rintro ⟨a92, c93⟩ ρ σm hJ hoff hdep
            have e83 := hdep 22 rfl rfl 83 rfl
            have e69 := hdep 8 rfl rfl 69 rfl
            obtain ⟨H, m⟩ := id hJ
            have hc102 := ((H.own 6 rfl).at hx98 hi99).snd.int
            exact dp_v (v := (I x97.2)) (wanted_yes rfl (yv_of rfl (e69.trans (congrArg B hb81)))) (rv_load1 Tryz.underlying3 rfl e83 hc102) rfl hJ
           refine ⟨?_, ?_⟩
           ·rintro ⟨a92, c93⟩ ρ σm hJ hoff hdep
            have e83 := hdep 22 rfl rfl 83 rfl
            have e69 := hdep 8 rfl rfl 69 rfl
            obtain ⟨H, m⟩ := id hJ
            have hc102 := ((H.own 7 rfl).at hx98 hi99).snd.int
            exact dp_v (v := (I x97.2)) (wanted_yes rfl (yv_of rfl (e69.trans (congrArg B hb81)))) (rv_load1 Tryz.underlying3 rfl e83 hc102) rfl hJ
           refine ⟨?_, ?_⟩
           ·rintro ⟨a92, c93⟩ ρ σm hJ hoff hdep
            have e83 := hdep 22 rfl rfl 83 rfl
            have e69 := hdep 8 rfl rfl 69 rfl
            obtain ⟨H, m⟩ := id hJ
            have hc102 := ((H.own 7 rfl).at hx98 hi99).snd.int
            exact dp_v (v := (I x97.2)) (wanted_yes rfl (yv_of rfl (e69.trans (congrArg B hb81)))) (rv_load1 Tryz.underlying3 rfl e83 hc102) rfl hJ
           trivial) ?_
         exact all_nil
        ·rintro ⟨a92, c93⟩ ρ σ103 hJ hoff hrel
         have e3 := look_off (N := 97) (hoff 3 rfl) rfl
         have e4 := look_off (N := 97) (hoff 4 rfl) rfl
         have e5 := look_off (N := 97) (hoff 5 rfl) rfl
         have e7 := look_off (N := 97) (hoff 7 rfl) rfl
         have e8 := look_off (N := 97) (hoff 8 rfl) rfl
         have e9 := look_off (N := 97) (hoff 9 rfl) rfl
         have e10 := look_off (N := 97) (hoff 10 rfl) rfl
         have e69 := hrel 8 rfl 69 rfl
         have e79 := hrel 18 rfl 79 rfl
         have e84 := hrel 23 rfl 84 rfl
         obtain ⟨H, -⟩ := (show Hp S0 σ0 σ103 [Ch.ro 0 (Sl a92 r89.2.1 c93) r89.2.1, Ch.ro 0 (Sl a9 r2.2.2.1 c10) r2.2.2.1, Ch.ro 0 (Sl a7 r2.2.1 c8) r2.2.1, Ch.ro 0 (Sl a57 r54 c58) r54, Ch.own n0 n0 (Sl a5 r2.1 c6) r2.1, Ch.ro n0 (Sl a7 r2.2.1 c8) r2.2.1, Ch.ro n0 (Sl a9 r2.2.2.1 c10) r2.2.2.1, Ch.own 0 n0 (Sl a15 r12 c16) r12, Ch.ro n0 (Sl a57 r54 c58) r54] ∧ Md (cov []) σ69 σ103 from hJ)
         clear hJ Hs
         rw [fr_lookL (L := [(3, (Sl a5 r2.1 c6)), (4, (Sl a7 r2.2.1 c8)), (5, (Sl a9 r2.2.2.1 c10)), (7, (I r2.2.2.2.2)), (8, (Sl a15 r12 c16)), (9, (Sl a57 r54 c58)), (10, (I s62)), (69, (B (!r78))), (79, (I r94)), (84, (I x97.2))]) ⟨e3, e4, e5, e7, e8, e9, e10, e69, e79, e84, trivial⟩]
         clear hoff hrel e3 e4 e5 e7 e8 e9 e10 e69 e79 e84
         refine st_g (v := (B (r94 != x97.2))) (congrArg some hb81) (rv_neq (a := r94) (b := x97.2) rfl rfl) (st (v := (B (r94 != x97.2))) (rv_pick_f (congrArg B hb81) rfl) (w_end ?_))
         obtain rfl := sj h
         exact ⟨rfl, _, σ103, fr_join ⟨rfl, rfl, rfl, rfl, rfl, rfl, rfl, rfl, trivial⟩, rfl, H.sel' [4, 5, 6, 7, 8] rfl rfl⟩
      ·clear hj
       have h := h'
       clear h' H
       rintro e a w ⟨rfl, ρ, σ104, rfl, rfl, H⟩
       refine q_then ?_
       refine cd_cond o71 rfl (fun hb105 => ?_) (fun hb105 => ?_)
       ·replace h := bif_t hb105 h
        refine c_seq (rg (sa (B false) rfl (w_end (q_then (c_ret (q_blk_r (q_then_r (q_then_r (q_blk_r ?_)))))))))
        obtain rfl := sj h
        obtain rfl := hres _ rfl
        exact .inr (⟨_, rfl, rfl, _, σ104, fr_join ⟨rfl, trivial⟩, rfl, H.sel' [] rfl rfl⟩)
       ·replace h := bif_f hb105 h
        refine c_skip (q_blk (q_then (rg (sm (I s62) rfl (st (v := (I (w64 (s62 + 1)))) (rv_add (a := s62) (b := 1) rfl rfl) (sa (I (w64 (s62 + 1))) rfl (w_end (q_then ?_))))))))
        obtain rfl := sj h
        exact ⟨_, rfl, _, σ104, fr_join ⟨rfl, rfl, rfl, rfl, rfl, rfl, rfl, trivial⟩, rfl, H.sel' [0, 1, 2, 3, 4] rfl rfl⟩
     ·replace h := bif_f hb70 h
      refine c_exit (q_then_x (q_then_x (q_blk_hit ?_)))
      obtain rfl := sj h
      obtain rfl := hres _ rfl
      exact .inl ⟨_, rfl, rfl, _, σ69, fr_join ⟨rfl, rfl, rfl, rfl, trivial⟩, rfl, H.sel' [0, 1, 2] rfl rfl⟩
    ·clear hj
     have h := h'
     clear h' H
     rintro e a w (⟨t106, rfl, rfl, ρ, σ107, rfl, rfl, H⟩ | ⟨t130, rfl, rfl, ρ, σ131, rfl, rfl, H⟩)
     ·replace h := selim_l h
      refine q_then (c_seq (rg (sm (Sl a5 r2.1 c6) rfl (sm (Sl a7 r2.2.1 c8) rfl (sm (Sl a9 r2.2.2.1 c10) rfl (sm (I r2.2.2.2.2) rfl ?_))))))
      obtain ⟨σ108, hw109, H, -⟩ := H.pub 0 rfl (Nat.le_refl _)
      rw [← hw109]; clear hw109
      replace H := H.roLow 0 0 rfl (Nat.zero_le _)
      replace H := H.roLow 2 0 rfl (Nat.zero_le _)
      replace H := H.roLow 4 0 rfl (Nat.zero_le _)
      revert h; refine br fun r110 hx111 h => ?_
      have hc112 := c_impl_HashNearest (Br := a5) (Bs := c6) (Aq := a7) (Ar := c8) (Bt := a9) (Bu := c10) hx111
      refine st_call (cx_call hc112 (ent_f hc112.fn rfl) hn0 (H.sel' [2, 1, 0, 0, 1, 2, 3, 4, 5] rfl rfl : Hp S0 σ0 _ ([_, _, _] ++ _))) wn ?_
      rintro _ σ115 ⟨_, ⟨a113, c114, rfl, rfl⟩, H, -⟩
      replace H : Hp _ _ _ [_, _, _, _, _, _, _] := H
      refine sm (Sl a7 r2.2.1 c8) rfl (sm (Sl a9 r2.2.2.1 c10) rfl (sm (I r2.2.2.2.2) rfl ?_))
      replace H := H.roLow 5 0 rfl (Nat.zero_le _)
      replace H := H.roLow 7 0 rfl (Nat.zero_le _)
      revert h; refine br fun r116 hx117 h => ?_
      have hc118 := c_impl_Nearest (Au := a7) (Av := c8) (Bt := a9) (Bu := c10) hx117
      refine st_call (cx_call hc118 (ent_f hc118.fn rfl) hn0 (H.sel' [1, 0, 0, 1, 2, 3, 4, 5, 6, 7, 8] rfl rfl : Hp S0 σ0 _ ([_, _] ++ _))) wn ?_
      rintro _ σ121 ⟨_, ⟨a119, c120, rfl, rfl⟩, H, -⟩
      replace H : Hp _ _ _ [_, _, _, _, _, _, _, _, _, _] := H
      replace H : Hp S0 σ0 σ121 [Ch.own 0 n0 (Sl a119 r116 c120) r116, Ch.own 0 n0 (Sl a113 r110 c114) r110] := H.sel' [0, 3] rfl rfl
      replace H := H.ownLow 1 0 0 rfl (Nat.le_refl _) (Nat.zero_le _)
      obtain ⟨σ122, hw123, H, -⟩ := H.pub 0 rfl (Nat.le_refl _)
      rw [← hw123]; clear hw123
      replace H := H.ownLow 1 0 0 rfl (Nat.le_refl _) (Nat.zero_le _)
      obtain ⟨σ124, hw125, H, -⟩ := H.pub 0 rfl (Nat.le_refl _)
      rw [← hw125]; clear hw125
      revert h; refine br fun r126 hx127 h => ?_
      have hc128 := c_laws_equalHits (Fr := a113) (Fs := c114) (Ft := a119) (Fu := c120) hx127
      refine st_call (cx_call hc128 (ent_f hc128.fn rfl) hn0 (H.sel' [1, 0, 0, 1] rfl rfl : Hp S0 σ0 _ ([_, _] ++ _))) wn ?_
      rintro _ σ129 ⟨_, ⟨rfl, rfl⟩, H, -⟩
      replace H : Hp _ _ _ [_, _] := H
      refine sa (B r126) rfl (w_end (q_then (c_ret ?_)))
      obtain rfl := sj h
      exact fin_ret (v := (B r126)) (results_ok Tryz.results3 (res_tmp (v := (B r126)) rfl res_nil) rfl) ⟨rfl, rfl⟩ (H.sel' [] rfl rfl)
     ·replace h := selim_r h
      refine q_then_r ?_
      obtain rfl := sj h
      exact fin_ret (v := (B t130)) (results_ok Tryz.results3 (res_tmp (v := (B t130)) rfl res_nil) rfl) ⟨rfl, rfl⟩ (H.sel' [] rfl rfl)

end Go.Vs
