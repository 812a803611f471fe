/- The functions compute what their models say. -/
import Derived.Test.YtbbddfckcpfoaaaGreatKRerankNearestC4
set_option linter.unusedVariables false
set_option linter.unusedSimpArgs false
set_option maxRecDepth 20000
namespace Go.Vs
open Go Go.Proofs
attribute [local irreducible] Code.wp Code.wpIn wpList wpListIn wpQuiet Calls CallsIn

theorem c_impl_RerankNearest {Ft : (List (List Int)) × (List (List Int))} {Fj : List (Int × (List Int) × Int)} {Bb : List Int} {Hq : Int} {Hr : Int} {Fu : Option Addr} {Fv : Nat} {Fw : Option Addr} {Fx : Nat} {Fk : Option Addr} {Fl : Nat} {Bd : Option Addr} {Be : Nat} {r : (List (Int × Int))} (h : M.impl_RerankNearest Ft Fj Bb Hq Hr = some r) :
    Cal2 Tryz.prog 21 [(.agg #[(Sl Fu Ft.1 Fv), (Sl Fw Ft.2 Fx)]), (Sl Fk Fj Fl), (Sl Bd Bb Be), (I Hq), (I Hr)] [Ch.ro 0 (Sl Fu Ft.1 Fv) Ft.1, Ch.ro 0 (Sl Fw Ft.2 Fx) Ft.2, Ch.ro 0 (Sl Fk Fj Fl) Fj, Ch.ro 0 (Sl Bd Bb Be) Bb] (fun n0 v L => ∃ (az1 : Option Addr), ∃ (cz2 : Nat), v = (Sl az1 r cz2) ∧ L = [Ch.own 0 n0 (Sl az1 r cz2) r]) := by
 refine cal2 (n := 40) Tryz.func21 rfl rfl rfl rfl ?_
 intro S0 σ0 n0 hn0 H
 unfold M.impl_RerankNearest at h
 refine c_seq (rg (st_ex (ex_box (cs := [(Sl Fu Ft.1 Fv), (Sl Fw Ft.2 Fx)]) H hn0 rfl rfl) wn ?_))
 rintro _ σ2 ⟨b1, rfl, H, -⟩
 refine sa (.slice none 0 0) rfl (w_end (q_then (c_seq (c_seq ?_))))
 obtain ⟨o3, hj, h'⟩ := bind_some h
 clear h
 refine c_cut (fun e a w => e = .normal ∧ ∃ (ρ : Nat → Value) (σ : St), a = fr 40 (updL ρ [(1, (Sl Fk Fj Fl)), (2, (Sl Bd Bb Be)), (3, (I Hq)), (4, (I Hr)), (5, (pt b1 0)), (27, (B o3))]) ∧ w = σ.w ∧ Hp S0 σ0 σ [Ch.ro 0 (Sl Fk Fj Fl) Fj, Ch.ro 0 (Sl Bd Bb Be) Bb, Ch.ro 0 (Sl Fu Ft.1 Fv) Ft.1, Ch.ro 0 (Sl Fw Ft.2 Fx) Ft.2, Ch.bx n0 b1 0 [(Sl Fu Ft.1 Fv), (Sl Fw Ft.2 Fx)] [] []]) ?_ ?_
 ·clear h'
  rename _ = some o3 => h
  refine rg ?_
  have hc4 := H.cells 0 rfl
  refine st (v := (.agg #[(Sl Fu Ft.1 Fv), (Sl Fw Ft.2 Fx)])) (rv_load (cs := [(Sl Fu Ft.1 Fv), (Sl Fw Ft.2 Fx)]) Tryz.underlying25 rfl ti25 rfl rfl hc4) ?_
  revert h; refine br fun r5 hx6 h => ?_
  have hc7 := c_impl_ValidBook (Fu := Fu) (Fv := Fv) (Fw := Fw) (Fx := Fx) hx6
  refine st_call (cx_call hc7 (ent_f hc7.fn rfl) hn0 (H.sel' [1, 2, 0, 1, 2, 3, 4] rfl rfl : Hp S0 σ0 _ ([_, _] ++ _))) wn ?_
  rintro _ σ8 ⟨_, ⟨rfl, rfl⟩, H, -⟩
  replace H : Hp _ _ _ [_, _, _, _, _] := H
  refine st (v := (B (!r5))) (rv_not rfl) (sm (B (!r5)) rfl ?_)
  rcases Bool.eq_false_or_eq_true (!r5) with hb9 | hb9
  ·replace h := bif_t hb9 h
   refine st_skip (congrArg some hb9) (st_skip (congrArg some hb9) (st_skip (congrArg some hb9) (st_skip (congrArg some hb9) (st_skip (congrArg some hb9) (st (v := (B true)) (rv_pick_t (congrArg B hb9) rfl) (sm (B true) rfl (st_skip rfl (st_skip rfl (st_skip rfl (st (v := (B true)) (rv_pick_t rfl rfl) (w_end ?_)))))))))))
   obtain rfl := sj h
   exact ⟨rfl, _, σ8, fr_join ⟨rfl, rfl, rfl, rfl, rfl, rfl, trivial⟩, rfl, H.sel' [3, 4, 1, 2, 0] rfl rfl⟩
  ·replace h := bif_f hb9 h
   refine st_g (v := (Sl Fk Fj Fl)) (congrArg some hb9) (rv_move rfl) (st_g (v := (Sl Bd Bb Be)) (congrArg some hb9) (rv_move rfl) (st_g (v := (I Hr)) (congrArg some hb9) (rv_move rfl) ?_))
   revert h; refine br fun r10 hx11 h => ?_
   have hc12 := c_impl_validSearch (Aw := Fk) (Ax := Fl) (Bd := Bd) (Be := Be) hx11
   refine st_call (cx_call hc12 (ent_f hc12.fn rfl) hn0 (H.sel' [3, 4, 0, 1, 2, 3, 4] rfl rfl : Hp S0 σ0 _ ([_, _] ++ _))) (wanted_yes rfl (by exact (congrArg some hb9))) ?_
   rintro _ σ13 ⟨_, ⟨rfl, rfl⟩, H, -⟩
   replace H : Hp _ _ _ [_, _, _, _, _] := H
   refine st_g (v := (B (!r10))) (congrArg some hb9) (rv_not rfl) (st (v := (B (!r10))) (rv_pick_f (congrArg B hb9) rfl) (sm (B (!r10)) rfl ?_))
   rcases Bool.eq_false_or_eq_true (!r10) with hb14 | hb14
   ·replace h := bif_t hb14 h
    refine st_skip (congrArg some hb14) (st_skip (congrArg some hb14) (st_skip (congrArg some hb14) (st (v := (B true)) (rv_pick_t (congrArg B hb14) rfl) (w_end ?_))))
    obtain rfl := sj h
    exact ⟨rfl, _, σ13, fr_join ⟨rfl, rfl, rfl, rfl, rfl, rfl, trivial⟩, rfl, H.sel' [3, 4, 1, 2, 0] rfl rfl⟩
   ·replace h := bif_f hb14 h
    refine st_g (v := (I Hq)) (congrArg some hb14) (rv_move rfl) ?_
    revert h; refine br fun r15 hx16 h => ?_
    have hc17 := c_impl_validCount hx16
    refine st_call (cx_call hc17 (ent_f hc17.fn rfl) hn0 (H.sel' [0, 1, 2, 3, 4] rfl rfl : Hp S0 σ0 _ ([] ++ _))) (wanted_yes rfl (by exact (congrArg some hb14))) ?_
    rintro _ σ18 ⟨_, ⟨rfl, rfl⟩, H, -⟩
    replace H : Hp _ _ _ [_, _, _, _, _] := H
    refine st_g (v := (B (!r15))) (congrArg some hb14) (rv_not rfl) (st (v := (B (!r15))) (rv_pick_f (congrArg B hb14) rfl) (w_end ?_))
    obtain rfl := sj h
    exact ⟨rfl, _, σ18, fr_join ⟨rfl, rfl, rfl, rfl, rfl, rfl, trivial⟩, rfl, H.sel' [3, 4, 1, 2, 0] rfl rfl⟩
 ·clear hj
  have h := h'
  clear h' H
  rintro e a w ⟨rfl, ρ, σ19, rfl, rfl, H⟩
  refine q_then ?_
  refine cd_cond o3 rfl (fun hb20 => ?_) (fun hb20 => ?_)
  ·replace h := bif_t hb20 h
   refine c_seq (rg (sa (.slice none 0 0) rfl (w_end (q_then (c_ret (q_then_r ?_))))))
   replace H := H.nilOwn (Int × Int) 0 n0
   obtain rfl := sj h
   exact fin_ret (v := (.slice none 0 0)) (results_ok Tryz.results21 (res_tmp (v := (.slice none 0 0)) rfl res_nil) rfl) ⟨none, 0, rfl, rfl⟩ (H.sel' [0] rfl rfl)
  ·replace h := bif_f hb20 h
   refine c_skip (q_then (c_seq (rg ?_)))
   have hc21 := H.cells 4 rfl
   refine st (v := (.agg #[(Sl Fu Ft.1 Fv), (Sl Fw Ft.2 Fx)])) (rv_load (cs := [(Sl Fu Ft.1 Fv), (Sl Fw Ft.2 Fx)]) Tryz.underlying25 rfl ti25 rfl rfl hc21) (sm (Sl Fk Fj Fl) rfl (sm (Sl Bd Bb Be) rfl (sm (I Hq) rfl ?_)))
   revert h; refine br fun r22 hx23 h => ?_
   have hc24 := c_impl_CodeNearest (Fu := Fu) (Fv := Fv) (Fw := Fw) (Fx := Fx) (Fk := Fk) (Fl := Fl) (Bd := Bd) (Be := Be) hx23
   refine st_call (cx_call hc24 (ent_f hc24.fn rfl) hn0 (H.sel' [2, 3, 0, 1, 0, 1, 2, 3, 4] rfl rfl : Hp S0 σ0 _ ([_, _, _, _] ++ _))) wn ?_
   rintro _ σ27 ⟨_, ⟨a25, c26, rfl, rfl⟩, H, -⟩
   replace H : Hp _ _ _ [_, _, _, _, _, _] := H
   refine st_ex (ex_alloc (cs := [(.slice none 0 0)]) H hn0 ti30 rfl) wn ?_
   rintro _ σ29 ⟨b28, rfl, H, -⟩
   refine st_exS (ex_store_box (k := 0) (cs := [(.slice none 0 0)]) (vs := [(Sl a25 r22 c26)]) (cs' := [(Sl a25 r22 c26)]) H (i := 0) rfl ti30 rfl rfl rfl rfl rfl (Nat.le_of_ble_eq_true rfl) (by simp [plain]) rfl) wn ?_
   rintro σ30 ⟨H, -⟩
   refine w_end (q_then (c_seq (rg (sm (Sl Fk Fj Fl) rfl (st (v := (.func (.func 72) #[] #[(pt b28 0)])) (rv_makeFunc (vs := [(pt b28 0)]) rfl) ?_)))))
   replace H := H.ownLow 1 0 0 rfl (Nat.le_refl _) (Nat.zero_le _)
   obtain ⟨σ31, hw32, H, -⟩ := H.pub 0 rfl (Nat.le_refl _)
   rw [← hw32]; clear hw32
   revert h; refine br fun r33 hx34 h => ?_
   have hc35 := c_impl_itemsThat__impl_RerankNearest_1 (Aw := Fk) (Ax := Fl) (Hk := n0) (Hl := b28) (Hm := 0) (Hn := []) (Ho := []) (Hi := a25) (Hj := c26) hx34
   refine st_call (cx_call hc35 (ent_f hc35.fn rfl) hn0 (H.sel' [2, 1, 0, 0, 2, 3, 4, 5, 6] rfl rfl : Hp S0 σ0 _ ([_, _, _] ++ _))) wn ?_
   rintro _ σ38 ⟨_, ⟨a36, c37, rfl, rfl⟩, H, -⟩
   replace H : Hp _ _ _ [_, _, _, _, _, _, _, _] := H
   replace H : Hp S0 σ0 σ38 [Ch.own n0 0 (Sl a36 r33 c37) r33, Ch.ro 0 (Sl Bd Bb Be) Bb] := H.sel' [0, 4] rfl rfl
   refine sa (Sl a36 r33 c37) rfl (w_end (q_then (c_seq (rg (sm (Sl a36 r33 c37) rfl (sm (Sl Bd Bb Be) rfl (sm (I Hr) rfl ?_)))))))
   obtain ⟨σ39, hw40, H, -⟩ := H.pub 0 rfl (Nat.zero_le _)
   rw [← hw40]; clear hw40
   revert h; refine br fun r41 hx42 h => ?_
   have hc43 := c_impl_nearestAmong (Aw := a36) (Ax := c37) (Bd := Bd) (Be := Be) hx42
   refine st_call (cx_call hc43 (ent_f hc43.fn rfl) hn0 (H.sel' [0, 1, 0, 1] rfl rfl : Hp S0 σ0 _ ([_, _] ++ _))) wn ?_
   rintro _ σ46 ⟨_, ⟨a44, c45, rfl, rfl⟩, H, -⟩
   replace H : Hp _ _ _ [_, _, _] := H
   refine sa (Sl a44 r41 c45) rfl (w_end (q_then (c_ret ?_)))
   obtain rfl := sj h
   exact fin_ret (v := (Sl a44 r41 c45)) (results_ok Tryz.results21 (res_tmp (v := (Sl a44 r41 c45)) rfl res_nil) rfl) ⟨a44, c45, rfl, rfl⟩ (H.sel' [0] rfl rfl)

theorem c_spec_validHalves {Av : List (List Int)} {Aw : Option Addr} {Ax : Nat} {r : Bool} (h : M.spec_validHalves Av = some r) :
    Cal2 Tryz.prog 121 [(Sl Aw Av Ax)] [Ch.ro 0 (Sl Aw Av Ax) Av] (fun n0 v L => v = (B r) ∧ L = []) := by
 refine cal2 (n := 24) Tryz.func121 rfl rfl rfl rfl ?_
 intro S0 σ0 n0 hn0 H
 unfold M.spec_validHalves at h
 refine c_seq (rg (sa (B false) rfl (w_end (q_then (c_seq (c_seq (rg (sa (I 0) rfl (w_end (q_then ?_))))))))))
 obtain ⟨o1, hj, h'⟩ := bind_some h
 clear h
 refine c_cut (fun e a w => (∃ t, o1 = (.inl t) ∧ e = .normal ∧ ∃ (ρ : Nat → Value) (σ : St), a = fr 24 (updL ρ []) ∧ w = σ.w ∧ Hp S0 σ0 σ []) ∨ (∃ t, o1 = (.inr t) ∧ e = .ret ∧ ∃ (ρ : Nat → Value) (σ : St), a = fr 24 (updL ρ [(2, (B t))]) ∧ w = σ.w ∧ Hp S0 σ0 σ [])) ?_ ?_
 ·clear h'
  rename _ = some o1 => h
  refine c_blk (wp_loopM _ h (fun s2 a w => ∃ (ρ : Nat → Value) (σ : St), a = fr 24 (updL ρ [(0, (Sl Aw Av Ax)), (3, (I s2))]) ∧ w = σ.w ∧ Hp S0 σ0 σ [Ch.ro 0 (Sl Aw Av Ax) Av]) ⟨_, σ0, fr_join ⟨rfl, rfl, trivial⟩, rfl, H.sel' [0] rfl rfl⟩ ?_)
  clear h H
  rintro s2 a w o ⟨ρ, σ3, rfl, rfl, H⟩ h hres
  refine c_seq (c_seq (rg (sm (I s2) rfl (sm (Sl Aw Av Ax) rfl (st (v := (I (Av.length : Int))) (rv_len Tryz.underlying23 rfl) (st (v := (B (decide (s2 < (Av.length : Int))))) (rv_lss (a := s2) (b := (Av.length : Int)) rfl rfl) (w_end (q_then ?_))))))))
  refine cd_cond (decide (s2 < (Av.length : Int))) rfl (fun hb4 => ?_) (fun hb4 => ?_)
  ·replace h := bif_t hb4 h
   refine c_skip (q_then (c_seq (c_blk (c_seq ?_))))
   obtain ⟨o5, hj, h'⟩ := bind_some h
   clear h
   refine c_cut (fun e a w => e = .normal ∧ ∃ (ρ : Nat → Value) (σ : St), a = fr 24 (updL ρ [(0, (Sl Aw Av Ax)), (3, (I s2)), (23, (B o5))]) ∧ w = σ.w ∧ Hp S0 σ0 σ [Ch.ro 0 (Sl Aw Av Ax) Av]) ?_ ?_
   ·clear h'
    rename _ = some o5 => h
    refine rg (sm (Sl Aw Av Ax) rfl (sm (I s2) rfl ?_))
    revert h; refine br fun x6 hx7 h => ?_
    obtain ⟨b9, o10, hi8, -⟩ := (H.ro 0 rfl).ix hx7
    refine st (v := (pt b9 o10)) (rv_ix Tryz.underlying23 ti27 rfl rfl hi8) ?_
    obtain ⟨v14, hc15, hR13⟩ := ((H.ro 0 rfl).at hx7 hi8).slice
    obtain ⟨a11, c12, rfl⟩ := hR13.isSl
    replace H := H.add (d := Ch.ro 0 (Sl a11 x6 c12) x6) hR13 (fun _ h => h)
    clear hR13
    refine st (v := (Sl a11 x6 c12)) (rv_load1 Tryz.underlying27 rfl rfl hc15) (st (v := (I (x6.length : Int))) (rv_len Tryz.underlying27 rfl) (st (v := (B ((x6.length : Int) != 2))) (rv_neq (a := (x6.length : Int)) (b := 2) rfl rfl) (sm (B ((x6.length : Int) != 2)) rfl ?_)))
    rcases Bool.eq_false_or_eq_true ((x6.length : Int) != 2) with hb16 | hb16
    ·replace h := bif_t hb16 h
     refine st_skip (congrArg some hb16) (st_skip (congrArg some hb16) (st_skip (congrArg some hb16) (st_skip (congrArg some hb16) (st_skip (congrArg some hb16) (st_skip (congrArg some hb16) (st (v := (B true)) (rv_pick_t (congrArg B hb16) rfl) (w_end ?_)))))))
     obtain rfl := sj h
     exact ⟨rfl, _, σ3, fr_join ⟨rfl, rfl, rfl, trivial⟩, rfl, H.sel' [1] rfl rfl⟩
    ·replace h := bif_f hb16 h
     refine st_g (v := (Sl Aw Av Ax)) (congrArg some hb16) (rv_move rfl) (st_g (v := (I s2)) (congrArg some hb16) (rv_move rfl) ?_)
     revert h; refine br fun x17 hx18 h => ?_
     obtain ⟨b20, o21, hi19, -⟩ := (H.ro 1 rfl).ix hx18
     refine st_g (v := (pt b20 o21)) (congrArg some hb16) (rv_ix Tryz.underlying23 ti27 rfl rfl hi19) ?_
     obtain ⟨v25, hc26, hR24⟩ := ((H.ro 1 rfl).at hx18 hi19).slice
     obtain ⟨a22, c23, rfl⟩ := hR24.isSl
     replace H := H.add (d := Ch.ro 0 (Sl a22 x17 c23) x17) hR24 (fun _ h => h)
     clear hR24
     refine st_g (v := (Sl a22 x17 c23)) (congrArg some hb16) (rv_load1 Tryz.underlying27 rfl rfl hc26) ?_
     revert h; refine br fun r27 hx28 h => ?_
     have hc29 := c_spec_allIn (Aw := a22) (Ax := c23) hx28
     refine st_call (cx_call hc29 (ent_f hc29.fn rfl) hn0 (H.sel' [0, 0, 1, 2] rfl rfl : Hp S0 σ0 _ ([_] ++ _))) (wanted_yes rfl (by exact (congrArg some hb16))) ?_
     rintro _ σ30 ⟨_, ⟨rfl, rfl⟩, H, -⟩
     replace H : Hp _ _ _ [_, _, _] := H
     refine st_g (v := (B (!r27))) (congrArg some hb16) (rv_not rfl) (st (v := (B (!r27))) (rv_pick_f (congrArg B hb16) rfl) (w_end ?_))
     obtain rfl := sj h
     exact ⟨rfl, _, σ30, fr_join ⟨rfl, rfl, rfl, trivial⟩, rfl, H.sel' [2] rfl rfl⟩
   ·clear hj
    have h := h'
    clear h' H
    rintro e a w ⟨rfl, ρ, σ31, rfl, rfl, H⟩
    refine q_then ?_
    refine cd_cond o5 rfl (fun hb32 => ?_) (fun hb32 => ?_)
    ·replace h := bif_t hb32 h
     refine c_seq (rg (sa (B false) rfl (w_end (q_then (c_ret (q_blk_r (q_then_r (q_then_r (q_blk_r ?_)))))))))
     obtain rfl := sj h
     obtain rfl := hres _ rfl
     exact .inr (⟨_, rfl, rfl, _, σ31, fr_join ⟨rfl, trivial⟩, rfl, H.sel' [] rfl rfl⟩)
    ·replace h := bif_f hb32 h
     refine c_skip (q_blk (q_then (rg (sm (I s2) rfl (st (v := (I (w64 (s2 + 1)))) (rv_add (a := s2) (b := 1) rfl rfl) (sa (I (w64 (s2 + 1))) rfl (w_end (q_then ?_))))))))
     obtain rfl := sj h
     exact ⟨_, rfl, _, σ31, fr_join ⟨rfl, rfl, trivial⟩, rfl, H.sel' [0] rfl rfl⟩
  ·replace h := bif_f hb4 h
   refine c_exit (q_then_x (q_then_x (q_blk_hit ?_)))
   obtain rfl := sj h
   obtain rfl := hres _ rfl
   exact .inl ⟨_, rfl, rfl, _, σ3, fr_join trivial, rfl, H.sel' [] rfl rfl⟩
 ·clear hj
  have h := h'
  clear h' H
  rintro e a w (⟨t33, rfl, rfl, ρ, σ34, rfl, rfl, H⟩ | ⟨t35, rfl, rfl, ρ, σ36, rfl, rfl, H⟩)
  ·replace h := selim_l h
   refine q_then (c_seq (rg (sa (B true) rfl (w_end (q_then (c_ret ?_))))))
   obtain rfl := sj h
   exact fin_ret (v := (B true)) (results_ok Tryz.results121 (res_tmp (v := (B true)) rfl res_nil) rfl) ⟨rfl, rfl⟩ (H.sel' [] rfl rfl)
  ·replace h := selim_r h
   refine q_then_r ?_
   obtain rfl := sj h
   exact fin_ret (v := (B t35)) (results_ok Tryz.results121 (res_tmp (v := (B t35)) rfl res_nil) rfl) ⟨rfl, rfl⟩ (H.sel' [] rfl rfl)

theorem c_spec_validBook {Ft : (List (List Int)) × (List (List Int))} {Fu : Option Addr} {Fv : Nat} {Fw : Option Addr} {Fx : Nat} {r : Bool} (h : M.spec_validBook Ft = some r) :
    Cal2 Tryz.prog 58 [(.agg #[(Sl Fu Ft.1 Fv), (Sl Fw Ft.2 Fx)])] [Ch.ro 0 (Sl Fu Ft.1 Fv) Ft.1, Ch.ro 0 (Sl Fw Ft.2 Fx) Ft.2] (fun n0 v L => v = (B r) ∧ L = []) := by
 refine cal2 (n := 23) Tryz.func58 rfl rfl rfl rfl ?_
 intro S0 σ0 n0 hn0 H
 unfold M.spec_validBook at h
 refine c_seq (rg (st_ex (ex_box (cs := [(Sl Fu Ft.1 Fv), (Sl Fw Ft.2 Fx)]) H hn0 rfl rfl) wn ?_))
 rintro _ σ2 ⟨b1, rfl, H, -⟩
 refine sa (B false) rfl (w_end (q_then (c_seq (rg (st (v := (pt b1 0)) (rv_fieldAddr (off := 0) (ft := 23) Tryz.underlying25 rfl ti23 rfl rfl) ?_)))))
 have hc3 := H.cell (u := (Sl Fu Ft.1 Fv)) (o' := 0) 0 0 rfl rfl rfl
 refine st (v := (Sl Fu Ft.1 Fv)) (rv_load1 Tryz.underlying23 rfl rfl hc3) (st (v := (I (Ft.1.length : Int))) (rv_len Tryz.underlying23 rfl) (st (v := (B ((Ft.1.length : Int) == 4))) (rv_eql (a := (Ft.1.length : Int)) (b := 4) rfl rfl) (sm (B ((Ft.1.length : Int) == 4)) rfl ?_)))
 rcases Bool.eq_false_or_eq_true ((Ft.1.length : Int) == 4) with hb4 | hb4
 ·replace h := bif_t hb4 h
  refine st_g (v := (pt b1 1)) (congrArg some hb4) (rv_fieldAddr (off := 1) (ft := 23) Tryz.underlying25 rfl ti23 rfl rfl) ?_
  have hc5 := H.cell (u := (Sl Fw Ft.2 Fx)) (o' := 1) 0 1 rfl rfl rfl
  refine st_g (v := (Sl Fw Ft.2 Fx)) (congrArg some hb4) (rv_load1 Tryz.underlying23 rfl rfl hc5) (st_g (v := (I (Ft.2.length : Int))) (congrArg some hb4) (rv_len Tryz.underlying23 rfl) (st_g (v := (B ((Ft.2.length : Int) == 4))) (congrArg some hb4) (rv_eql (a := (Ft.2.length : Int)) (b := 4) rfl rfl) (st (v := (B ((Ft.2.length : Int) == 4))) (rv_pick_t (congrArg B hb4) rfl) (sm (B ((Ft.2.length : Int) == 4)) rfl ?_))))
  rcases Bool.eq_false_or_eq_true ((Ft.2.length : Int) == 4) with hb6 | hb6
  ·replace h := bif_t hb6 h
   refine st_g (v := (pt b1 0)) (congrArg some hb6) (rv_fieldAddr (off := 0) (ft := 23) Tryz.underlying25 rfl ti23 rfl rfl) ?_
   have hc7 := H.cell (u := (Sl Fu Ft.1 Fv)) (o' := 0) 0 0 rfl rfl rfl
   refine st_g (v := (Sl Fu Ft.1 Fv)) (congrArg some hb6) (rv_load1 Tryz.underlying23 rfl rfl hc7) ?_
   revert h; refine br fun r8 hx9 h => ?_
   have hc10 := c_spec_validHalves (Aw := Fu) (Ax := Fv) hx9
   refine st_call (cx_call hc10 (ent_f hc10.fn rfl) hn0 (H.sel' [1, 0, 1, 2] rfl rfl : Hp S0 σ0 _ ([_] ++ _))) (wanted_yes rfl (by exact (congrArg some hb6))) ?_
   rintro _ σ11 ⟨_, ⟨rfl, rfl⟩, H, -⟩
   replace H : Hp _ _ _ [_, _, _] := H
   refine st (v := (B r8)) (rv_pick_t (congrArg B hb6) rfl) (sm (B r8) rfl ?_)
   rcases Bool.eq_false_or_eq_true r8 with hb12 | hb12
   ·replace h := bif_t hb12 h
    refine st_g (v := (pt b1 1)) (congrArg some hb12) (rv_fieldAddr (off := 1) (ft := 23) Tryz.underlying25 rfl ti23 rfl rfl) ?_
    have hc13 := H.cell (u := (Sl Fw Ft.2 Fx)) (o' := 1) 0 1 rfl rfl rfl
    refine st_g (v := (Sl Fw Ft.2 Fx)) (congrArg some hb12) (rv_load1 Tryz.underlying23 rfl rfl hc13) ?_
    revert h; refine br fun r14 hx15 h => ?_
    have hc16 := c_spec_validHalves (Aw := Fw) (Ax := Fx) hx15
    refine st_call (cx_call hc16 (ent_f hc16.fn rfl) hn0 (H.sel' [2, 0, 1, 2] rfl rfl : Hp S0 σ0 _ ([_] ++ _))) (wanted_yes rfl (by exact (congrArg some hb12))) ?_
    rintro _ σ17 ⟨_, ⟨rfl, rfl⟩, H, -⟩
    replace H : Hp _ _ _ [_, _, _] := H
    refine st (v := (B r14)) (rv_pick_t (congrArg B hb12) rfl) (sa (B r14) rfl (w_end (q_then (c_ret ?_))))
    obtain rfl := sj h
    exact fin_ret (v := (B r14)) (results_ok Tryz.results58 (res_tmp (v := (B r14)) rfl res_nil) rfl) ⟨rfl, rfl⟩ (H.sel' [] rfl rfl)
   ·replace h := bif_f hb12 h
    refine st_skip (congrArg some hb12) (st_skip (congrArg some hb12) (st_skip (congrArg some hb12) (st (v := (B false)) (rv_pick_f (congrArg B hb12) rfl) (sa (B false) rfl (w_end (q_then (c_ret ?_)))))))
    obtain rfl := sj h
    exact fin_ret (v := (B false)) (results_ok Tryz.results58 (res_tmp (v := (B false)) rfl res_nil) rfl) ⟨rfl, rfl⟩ (H.sel' [] rfl rfl)
  ·replace h := bif_f hb6 h
   refine st_skip (congrArg some hb6) (st_skip (congrArg some hb6) (st_skip (congrArg some hb6) (st (v := (B false)) (rv_pick_f (congrArg B hb6) rfl) (sm (B false) rfl (st_skip rfl (st_skip rfl (st_skip rfl (st (v := (B false)) (rv_pick_f rfl rfl) (sa (B false) rfl (w_end (q_then ?_)))))))))))
   refine c_ret ?_
   obtain rfl := sj h
   exact fin_ret (v := (B false)) (results_ok Tryz.results58 (res_tmp (v := (B false)) rfl res_nil) rfl) ⟨rfl, rfl⟩ (H.sel' [] rfl rfl)
 ·replace h := bif_f hb4 h
  refine st_skip (congrArg some hb4) (st_skip (congrArg some hb4) (st_skip (congrArg some hb4) (st_skip (congrArg some hb4) (st (v := (B false)) (rv_pick_f (congrArg B hb4) rfl) (sm (B false) rfl (st_skip rfl (st_skip rfl (st_skip rfl (st (v := (B false)) (rv_pick_f rfl rfl) (sm (B false) rfl (st_skip rfl ?_)))))))))))
  refine st_skip rfl (st_skip rfl (st (v := (B false)) (rv_pick_f rfl rfl) (sa (B false) rfl (w_end (q_then (c_ret ?_))))))
  obtain rfl := sj h
  exact fin_ret (v := (B false)) (results_ok Tryz.results58 (res_tmp (v := (B false)) rfl res_nil) rfl) ⟨rfl, rfl⟩ (H.sel' [] rfl rfl)

theorem c_spec_validKind {Az : Int}  {r : Bool} (h : M.spec_validKind Az = some r) :
    Cal2 Tryz.prog 91 [(I Az)] [] (fun n0 v L => v = (B r) ∧ L = []) := by
 refine cal2 (n := 5) Tryz.func91 rfl rfl rfl rfl ?_
 intro S0 σ0 n0 hn0 H
 unfold M.spec_validKind at h
 refine c_seq (rg (sa (B false) rfl (w_end (q_then (c_seq (rg (sm (I Az) rfl ?_)))))))
 revert h; refine br fun r1 hx2 h => ?_
 have hc3 := c_spec_inRange hx2
 refine st_call (cx_call hc3 (ent_f hc3.fn rfl) hn0 (H.sel' [] rfl rfl : Hp S0 σ0 _ ([] ++ _))) wn ?_
 rintro _ σ4 ⟨_, ⟨rfl, rfl⟩, H, -⟩
 replace H : Hp _ _ _ [] := H
 refine sa (B r1) rfl (w_end (q_then (c_ret ?_)))
 obtain rfl := sj h
 exact fin_ret (v := (B r1)) (results_ok Tryz.results91 (res_tmp (v := (B r1)) rfl res_nil) rfl) ⟨rfl, rfl⟩ (H.sel' [] rfl rfl)

theorem c_spec_validQuery {Av : List (Int × (List Int) × Int)} {Ba : Int} {Bb : List Int} {Aw : Option Addr} {Ax : Nat} {Bd : Option Addr} {Be : Nat} {r : Bool} (h : M.spec_validQuery Av Ba Bb = some r) :
    Cal2 Tryz.prog 59 [(Sl Aw Av Ax), (I Ba), (Sl Bd Bb Be)] [Ch.ro 0 (Sl Aw Av Ax) Av, Ch.ro 0 (Sl Bd Bb Be) Bb] (fun n0 v L => v = (B r) ∧ L = []) := by
 refine cal2 (n := 17) Tryz.func59 rfl rfl rfl rfl ?_
 intro S0 σ0 n0 hn0 H
 unfold M.spec_validQuery at h
 refine c_seq (rg (sa (B false) rfl (w_end (q_then (c_seq (rg (sm (Sl Aw Av Ax) rfl ?_)))))))
 revert h; refine br fun r1 hx2 h => ?_
 have hc3 := c_spec_validStore (Aw := Aw) (Ax := Ax) hx2
 refine st_call (cx_call hc3 (ent_f hc3.fn rfl) hn0 (H.sel' [0, 0, 1] rfl rfl : Hp S0 σ0 _ ([_] ++ _))) wn ?_
 rintro _ σ4 ⟨_, ⟨rfl, rfl⟩, H, -⟩
 replace H : Hp _ _ _ [_, _] := H
 refine sm (B r1) rfl ?_
 rcases Bool.eq_false_or_eq_true r1 with hb5 | hb5
 ·replace h := bif_t hb5 h
  refine st_g (v := (I Ba)) (congrArg some hb5) (rv_move rfl) ?_
  revert h; refine br fun r6 hx7 h => ?_
  have hc8 := c_spec_validKind hx7
  refine st_call (cx_call hc8 (ent_f hc8.fn rfl) hn0 (H.sel' [0, 1] rfl rfl : Hp S0 σ0 _ ([] ++ _))) (wanted_yes rfl (by exact (congrArg some hb5))) ?_
  rintro _ σ9 ⟨_, ⟨rfl, rfl⟩, H, -⟩
  replace H : Hp _ _ _ [_, _] := H
  refine st (v := (B r6)) (rv_pick_t (congrArg B hb5) rfl) (sm (B r6) rfl ?_)
  rcases Bool.eq_false_or_eq_true r6 with hb10 | hb10
  ·replace h := bif_t hb10 h
   refine st_g (v := (Sl Bd Bb Be)) (congrArg some hb10) (rv_move rfl) ?_
   revert h; refine br fun r11 hx12 h => ?_
   have hc13 := c_spec_isVector (Am := Bd) (Ao := Be) hx12
   refine st_call (cx_call hc13 (ent_f hc13.fn rfl) hn0 (H.sel' [1, 0, 1] rfl rfl : Hp S0 σ0 _ ([_] ++ _))) (wanted_yes rfl (by exact (congrArg some hb10))) ?_
   rintro _ σ14 ⟨_, ⟨rfl, rfl⟩, H, -⟩
   replace H : Hp _ _ _ [_, _] := H
   refine st (v := (B r11)) (rv_pick_t (congrArg B hb10) rfl) (sa (B r11) rfl (w_end (q_then (c_ret ?_))))
   obtain rfl := sj h
   exact fin_ret (v := (B r11)) (results_ok Tryz.results59 (res_tmp (v := (B r11)) rfl res_nil) rfl) ⟨rfl, rfl⟩ (H.sel' [] rfl rfl)
  ·replace h := bif_f hb10 h
   refine st_skip (congrArg some hb10) (st_skip (congrArg some hb10) (st (v := (B false)) (rv_pick_f (congrArg B hb10) rfl) (sa (B false) rfl (w_end (q_then (c_ret ?_))))))
   obtain rfl := sj h
   exact fin_ret (v := (B false)) (results_ok Tryz.results59 (res_tmp (v := (B false)) rfl res_nil) rfl) ⟨rfl, rfl⟩ (H.sel' [] rfl rfl)
 ·replace h := bif_f hb5 h
  refine st_skip (congrArg some hb5) (st_skip (congrArg some hb5) (st (v := (B false)) (rv_pick_f (congrArg B hb5) rfl) (sm (B false) rfl (st_skip rfl (st_skip rfl (st (v := (B false)) (rv_pick_f rfl rfl) (sa (B false) rfl (w_end (q_then (c_ret ?_))))))))))
  obtain rfl := sj h
  exact fin_ret (v := (B false)) (results_ok Tryz.results59 (res_tmp (v := (B false)) rfl res_nil) rfl) ⟨rfl, rfl⟩ (H.sel' [] rfl rfl)

theorem c_spec_nearer {Aa : Int × Int} {Ac : Int × Int}  {r : Bool} (h : M.spec_nearer Aa Ac = some r) :
    Cal2 Tryz.prog 100 [(.agg #[(I Aa.1), (I Aa.2)]), (.agg #[(I Ac.1), (I Ac.2)])] [] (fun n0 v L => v = (B r) ∧ L = []) := by
 refine cal2 (n := 24) Tryz.func100 rfl rfl rfl rfl ?_
 intro S0 σ0 n0 hn0 H
 unfold M.spec_nearer at h
 refine c_seq (rg (st_ex (ex_box (cs := [(I Aa.1), (I Aa.2)]) H hn0 rfl rfl) wn ?_))
 rintro _ σ2 ⟨b1, rfl, H, -⟩
 refine st_ex (ex_box (cs := [(I Ac.1), (I Ac.2)]) H hn0 rfl rfl) wn ?_
 rintro _ σ4 ⟨b3, rfl, H, -⟩
 refine sa (B false) rfl (w_end (q_then (c_seq (rg (st (v := (pt b1 1)) (rv_fieldAddr (off := 1) (ft := 3) Tryz.underlying43 rfl ti3 rfl rfl) ?_)))))
 have hc5 := H.cell (u := (I Aa.2)) (o' := 1) 1 1 rfl rfl rfl
 refine st (v := (I Aa.2)) (rv_load1 Tryz.underlying3 rfl rfl hc5) (st (v := (pt b3 1)) (rv_fieldAddr (off := 1) (ft := 3) Tryz.underlying43 rfl ti3 rfl rfl) ?_)
 have hc6 := H.cell (u := (I Ac.2)) (o' := 1) 0 1 rfl rfl rfl
 refine st (v := (I Ac.2)) (rv_load1 Tryz.underlying3 rfl rfl hc6) (st (v := (B (decide (Aa.2 < Ac.2)))) (rv_lss (a := Aa.2) (b := Ac.2) rfl rfl) (sm (B (decide (Aa.2 < Ac.2))) rfl ?_))
 rcases Bool.eq_false_or_eq_true (decide (Aa.2 < Ac.2)) with hb7 | hb7
 ·replace h := bif_t hb7 h
  refine st_skip (congrArg some hb7) (st_skip (congrArg some hb7) (st_skip (congrArg some hb7) (st_skip (congrArg some hb7) (st_skip (congrArg some hb7) (st_skip (congrArg some hb7) (st_skip_u rfl (st_skip_u rfl (st_skip_u rfl (st_skip_u rfl (st_skip_u rfl (st_skip (congrArg some hb7) ?_)))))))))))
  refine st (v := (B true)) (rv_pick_t (congrArg B hb7) rfl) (sa (B true) rfl (w_end (q_then (c_ret ?_))))
  obtain rfl := sj h
  exact fin_ret (v := (B true)) (results_ok Tryz.results100 (res_tmp (v := (B true)) rfl res_nil) rfl) ⟨rfl, rfl⟩ (H.sel' [] rfl rfl)
 ·replace h := bif_f hb7 h
  refine st_g (v := (pt b1 1)) (congrArg some hb7) (rv_fieldAddr (off := 1) (ft := 3) Tryz.underlying43 rfl ti3 rfl rfl) ?_
  have hc8 := H.cell (u := (I Aa.2)) (o' := 1) 1 1 rfl rfl rfl
  refine st_g (v := (I Aa.2)) (congrArg some hb7) (rv_load1 Tryz.underlying3 rfl rfl hc8) (st_g (v := (pt b3 1)) (congrArg some hb7) (rv_fieldAddr (off := 1) (ft := 3) Tryz.underlying43 rfl ti3 rfl rfl) ?_)
  have hc9 := H.cell (u := (I Ac.2)) (o' := 1) 0 1 rfl rfl rfl
  refine st_g (v := (I Ac.2)) (congrArg some hb7) (rv_load1 Tryz.underlying3 rfl rfl hc9) (st_g (v := (B (Aa.2 == Ac.2))) (congrArg some hb7) (rv_eql (a := Aa.2) (b := Ac.2) rfl rfl) (st_g (v := (B (Aa.2 == Ac.2))) (congrArg some hb7) (rv_move rfl) ?_))
  rcases Bool.eq_false_or_eq_true (Aa.2 == Ac.2) with hb10 | hb10
  ·replace h := bif_t hb10 h
   refine st_g (v := (pt b1 0)) (congrArg some hb10) (rv_fieldAddr (off := 0) (ft := 3) Tryz.underlying43 rfl ti3 rfl rfl) ?_
   have hc11 := H.cell (u := (I Aa.1)) (o' := 0) 1 0 rfl rfl rfl
   refine st_g (v := (I Aa.1)) (congrArg some hb10) (rv_load1 Tryz.underlying3 rfl rfl hc11) (st_g (v := (pt b3 0)) (congrArg some hb10) (rv_fieldAddr (off := 0) (ft := 3) Tryz.underlying43 rfl ti3 rfl rfl) ?_)
   have hc12 := H.cell (u := (I Ac.1)) (o' := 0) 0 0 rfl rfl rfl
   refine st_g (v := (I Ac.1)) (congrArg some hb10) (rv_load1 Tryz.underlying3 rfl rfl hc12) (st_g (v := (B (decide (Aa.1 < Ac.1)))) (congrArg some hb10) (rv_lss (a := Aa.1) (b := Ac.1) rfl rfl) (st_g (v := (B (decide (Aa.1 < Ac.1)))) (congrArg some hb7) (rv_pick_t (congrArg B hb10) rfl) (st (v := (B (decide (Aa.1 < Ac.1)))) (rv_pick_f (congrArg B hb7) rfl) (sa (B (decide (Aa.1 < Ac.1))) rfl (w_end (q_then (c_ret ?_)))))))
   obtain rfl := sj h
   exact fin_ret (v := (B (decide (Aa.1 < Ac.1)))) (results_ok Tryz.results100 (res_tmp (v := (B (decide (Aa.1 < Ac.1)))) rfl res_nil) rfl) ⟨rfl, rfl⟩ (H.sel' [] rfl rfl)
  ·replace h := bif_f hb10 h
   refine st_skip (congrArg some hb10) (st_skip (congrArg some hb10) (st_skip (congrArg some hb10) (st_skip (congrArg some hb10) (st_skip (congrArg some hb10) (st_g (v := (B false)) (congrArg some hb7) (rv_pick_f (congrArg B hb10) rfl) (st (v := (B false)) (rv_pick_f (congrArg B hb7) rfl) (sa (B false) rfl (w_end (q_then (c_ret ?_))))))))))
   obtain rfl := sj h
   exact fin_ret (v := (B false)) (results_ok Tryz.results100 (res_tmp (v := (B false)) rfl res_nil) rfl) ⟨rfl, rfl⟩ (H.sel' [] rfl rfl)

theorem c_spec_addHit {Av : List (Int × Int)} {Bz : Int × Int} {Ht : Int} {Aw : Option Addr} {Ax : Nat} {r : (List (Int × Int))} (h : M.spec_addHit Av Bz Ht = some r) :
    Cal2 Tryz.prog 61 [(Sl Aw Av Ax), (.agg #[(I Bz.1), (I Bz.2)]), (I Ht)] [Ch.ro 0 (Sl Aw Av Ax) Av] (fun n0 v L => ∃ (az1 : Option Addr), ∃ (cz2 : Nat), v = (Sl az1 r cz2) ∧ L = [Ch.own n0 n0 (Sl az1 r cz2) r]) := by
 refine cal2 (n := 58) Tryz.func61 rfl rfl rfl rfl ?_
 intro S0 σ0 n0 hn0 H
 unfold M.spec_addHit at h
 refine c_seq (rg (st_ex (ex_box (cs := [(I Bz.1), (I Bz.2)]) H hn0 rfl rfl) wn ?_))
 rintro _ σ2 ⟨b1, rfl, H, -⟩
 refine sa (.slice none 0 0) rfl (w_end (q_then (c_seq ?_)))
 revert h; refine br fun xs4 hx5 h => ?_
 have hc8 := H.cells 0 rfl
 have Hs := H
 refine rg2 (σ := σ2) (Nm := (Nat) × (Option Addr) × (Nat) × (Nat)) 5 [0, 2, 4] [[false, false, false], [true, false, false], [false, false, true], [true, true, false], [true, false, true], [true, true, true]] [[(0, 1), (2, 4)], [(0, 0), (1, 1), (2, 2), (4, 4)], [(1, 3), (4, 5)], [(0, 0), (1, 1), (3, 3)], [(0, 2), (1, 4), (3, 5)]] 5 [fun ((b3, a6, c7, b9) : (Nat) × (Option Addr) × (Nat) × (Nat)) => fun σm => Hp S0 σ0 σm [Ch.bx n0 b1 0 [(I Bz.1), (I Bz.2)] [] [], Ch.ro 0 (Sl Aw Av Ax) Av] ∧ Md (cov []) σ2 σm, fun ((b3, a6, c7, b9) : (Nat) × (Option Addr) × (Nat) × (Nat)) => fun σm => Hp S0 σ0 σm [Ch.own n0 n0 (Sl (some ⟨b3, 0, none⟩) ([] : List (Int × Int)) 0) ([] : List (Int × Int)), Ch.bx n0 b1 0 [(I Bz.1), (I Bz.2)] [] [], Ch.ro 0 (Sl Aw Av Ax) Av] ∧ Md (cov []) σ2 σm, fun ((b3, a6, c7, b9) : (Nat) × (Option Addr) × (Nat) × (Nat)) => fun σm => Hp S0 σ0 σm [Ch.own n0 n0 (Sl (some ⟨b9, 0, none⟩) ([(Bz.1, Bz.2)] : List (Int × Int)) 1) ([(Bz.1, Bz.2)] : List (Int × Int)), Ch.bx n0 b1 0 [(I Bz.1), (I Bz.2)] [] [], Ch.ro 0 (Sl Aw Av Ax) Av] ∧ Md (cov []) σ2 σm, fun ((b3, a6, c7, b9) : (Nat) × (Option Addr) × (Nat) × (Nat)) => fun σm => Hp S0 σ0 σm [Ch.own n0 n0 (Sl a6 xs4 c7) xs4, Ch.bx n0 b1 0 [(I Bz.1), (I Bz.2)] [] [], Ch.ro 0 (Sl Aw Av Ax) Av] ∧ Md (fun i => (cov []) i ∨ (fun b => blk (Sl (some ⟨b3, 0, none⟩) ([] : List (Int × Int)) 0) = some b) i) σ2 σm, fun ((b3, a6, c7, b9) : (Nat) × (Option Addr) × (Nat) × (Nat)) => fun σm => Hp S0 σ0 σm [Ch.own n0 n0 (Sl (some ⟨b9, 0, none⟩) ([(Bz.1, Bz.2)] : List (Int × Int)) 1) ([(Bz.1, Bz.2)] : List (Int × Int)), Ch.own n0 n0 (Sl (some ⟨b3, 0, none⟩) ([] : List (Int × Int)) 0) ([] : List (Int × Int)), Ch.bx n0 b1 0 [(I Bz.1), (I Bz.2)] [] [], Ch.ro 0 (Sl Aw Av Ax) Av] ∧ Md (cov []) σ2 σm, fun ((b3, a6, c7, b9) : (Nat) × (Option Addr) × (Nat) × (Nat)) => fun σm => Hp S0 σ0 σm [Ch.own n0 n0 (Sl (some ⟨b9, 0, none⟩) ([(Bz.1, Bz.2)] : List (Int × Int)) 1) ([(Bz.1, Bz.2)] : List (Int × Int)), Ch.own n0 n0 (Sl a6 xs4 c7) xs4, Ch.bx n0 b1 0 [(I Bz.1), (I Bz.2)] [] [], Ch.ro 0 (Sl Aw Av Ax) Av] ∧ Md (fun i => (cov []) i ∨ (fun b => blk (Sl (some ⟨b3, 0, none⟩) ([] : List (Int × Int)) 0) = some b) i) σ2 σm] [fun ((b3, a6, c7, b9) : (Nat) × (Option Addr) × (Nat) × (Nat)) => (Sl (some ⟨b3, 0, none⟩) ([] : List (Int × Int)) 0), fun ((b3, a6, c7, b9) : (Nat) × (Option Addr) × (Nat) × (Nat)) => (Sl Aw Av Ax), fun ((b3, a6, c7, b9) : (Nat) × (Option Addr) × (Nat) × (Nat)) => (Sl a6 xs4 c7), fun ((b3, a6, c7, b9) : (Nat) × (Option Addr) × (Nat) × (Nat)) => (.agg #[(I Bz.1), (I Bz.2)]), fun ((b3, a6, c7, b9) : (Nat) × (Option Addr) × (Nat) × (Nat)) => (Sl (some ⟨b9, 0, none⟩) ([(Bz.1, Bz.2)] : List (Int × Int)) 1)] (0, none, 0, 0) (by kernel_rfl) (by kernel_rfl) ?_ ?_ ?_
 ·intro σm m0
  exact ⟨H.grow (m0.mono fun _ h => h.elim), m0⟩
 ·refine all_cons (by
    refine ⟨?_, ?_⟩
    ·rintro ⟨b3, a6, c7, b9⟩ ρ σm hJ hoff hdep
     obtain ⟨H, m⟩ := id hJ
     refine dp_ex wn (ex_buildSlice (el := n0) (xs := ([] : List (Int × Int))) (ps := []) (cs := []) H hn0 Tryz.underlying30 ti43 rfl rfl (by kernel_rfl) (.nil) rfl) ?_
     rintro _ σq ⟨b3x, rfl, H2, m2⟩
     exact ⟨_, (b3x, a6, c7, b9), rfl, rfl, ⟨H2.sel' [0, 1, 2] rfl rfl, m.comp0 m2⟩, stab [1, 3, 4] (by kernel_rfl) ⟨rfl, rfl, rfl, trivial⟩⟩
    refine ⟨?_, ?_⟩
    ·rintro ⟨b3, a6, c7, b9⟩ ρ σm hJ hoff hdep
     obtain ⟨H, m⟩ := id hJ
     refine dp_ex wn (ex_buildSlice (el := n0) (xs := ([] : List (Int × Int))) (ps := []) (cs := []) H hn0 Tryz.underlying30 ti43 rfl rfl (by kernel_rfl) (.nil) rfl) ?_
     rintro _ σq ⟨b3x, rfl, H2, m2⟩
     exact ⟨_, (b3x, a6, c7, b9), rfl, rfl, ⟨H2.sel' [1, 0, 2, 3] rfl rfl, m.comp0 m2⟩, stab [1, 3, 4] (by kernel_rfl) ⟨rfl, rfl, rfl, trivial⟩⟩
    trivial) ?_
  refine ac rfl (by
    intro k; rintro ⟨b3, a6, c7, b9⟩ ρ σm hJ hoff hdep
    have e0 := look_off (N := 58) (hoff 0 rfl) rfl
    exact dp_v (v := (Sl Aw Av Ax)) wn (rv_move e0) rfl hJ) ?_
  refine all_cons (by
    refine ⟨?_, ?_⟩
    ·rintro ⟨b3, a6, c7, b9⟩ ρ σm hJ hoff hdep
     have e10 := hdep 0 rfl rfl 10 rfl
     have e11 := hdep 1 rfl rfl 11 rfl
     obtain ⟨H, m⟩ := id hJ
     refine dp_ex wn (ex_append H (i := 0) rfl Tryz.underlying30 Tryz.underlying30 ti43 rfl rfl (by decide) ((H.ro 2 rfl).rd.sc) hx5 hn0 e10 e11) ?_
     rintro _ σq ⟨a6x, c7x, rfl, H2, m2⟩
     exact ⟨_, (b3, a6x, c7x, b9), rfl, rfl, ⟨H2.sel' [0, 1, 2] rfl rfl, m.comp m2⟩, stab [0, 1, 3, 4] (by kernel_rfl) ⟨rfl, rfl, rfl, rfl, trivial⟩⟩
    refine ⟨?_, ?_⟩
    ·rintro ⟨b3, a6, c7, b9⟩ ρ σm hJ hoff hdep
     have e10 := hdep 0 rfl rfl 10 rfl
     have e11 := hdep 1 rfl rfl 11 rfl
     obtain ⟨H, m⟩ := id hJ
     refine dp_ex wn (ex_append H (i := 1) rfl Tryz.underlying30 Tryz.underlying30 ti43 rfl rfl (by decide) ((H.ro 3 rfl).rd.sc) hx5 hn0 e10 e11) ?_
     rintro _ σq ⟨a6x, c7x, rfl, H2, m2⟩
     exact ⟨_, (b3, a6x, c7x, b9), rfl, rfl, ⟨H2.sel' [1, 0, 2, 3] rfl rfl, m.comp m2⟩, stab [0, 1, 3, 4] (by kernel_rfl) ⟨rfl, rfl, rfl, rfl, trivial⟩⟩
    trivial) ?_
  refine all_cons (by
    refine ⟨?_, ?_⟩
    ·rintro ⟨b3, a6, c7, b9⟩ ρ σm hJ hoff hdep
     have e4 := look_off (N := 58) (hoff 4 rfl) rfl
     obtain ⟨H, m⟩ := id hJ
     have hc8 := H.cells 0 rfl
     exact dp_v (v := (.agg #[(I Bz.1), (I Bz.2)])) wn (rv_load (cs := [(I Bz.1), (I Bz.2)]) Tryz.underlying43 rfl ti43 e4 rfl hc8) rfl hJ
    refine ⟨?_, ?_⟩
    ·rintro ⟨b3, a6, c7, b9⟩ ρ σm hJ hoff hdep
     have e4 := look_off (N := 58) (hoff 4 rfl) rfl
     obtain ⟨H, m⟩ := id hJ
     have hc8 := H.cells 1 rfl
     exact dp_v (v := (.agg #[(I Bz.1), (I Bz.2)])) wn (rv_load (cs := [(I Bz.1), (I Bz.2)]) Tryz.underlying43 rfl ti43 e4 rfl hc8) rfl hJ
    refine ⟨?_, ?_⟩
    ·rintro ⟨b3, a6, c7, b9⟩ ρ σm hJ hoff hdep
     have e4 := look_off (N := 58) (hoff 4 rfl) rfl
     obtain ⟨H, m⟩ := id hJ
     have hc8 := H.cells 1 rfl
     exact dp_v (v := (.agg #[(I Bz.1), (I Bz.2)])) wn (rv_load (cs := [(I Bz.1), (I Bz.2)]) Tryz.underlying43 rfl ti43 e4 rfl hc8) rfl hJ
    trivial) ?_
  refine all_cons (by
    refine ⟨?_, ?_⟩
    ·rintro ⟨b3, a6, c7, b9⟩ ρ σm hJ hoff hdep
     have e13 : look 58 ρ 13 = (.agg #[(I Bz.1), (I Bz.2)]) := hdep 3 rfl rfl 13 rfl
     obtain ⟨H, m⟩ := id hJ
     refine dp_ex wn (ex_buildSlice (el := n0) (xs := ([(Bz.1, Bz.2)] : List (Int × Int))) (ps := [(0, (.agg #[(I Bz.1), (I Bz.2)]))]) (cs := [(I Bz.1), (I Bz.2)]) H hn0 Tryz.underlying30 ti43 rfl (by show [(0, look 58 ρ 13)] = _; rw [e13]) (by kernel_rfl) (.cons (c := [(I Bz.1), (I Bz.2)]) ⟨[(I Bz.1)], [(I Bz.2)], rfl, rfl, rfl⟩ (.nil)) rfl) ?_
     rintro _ σq ⟨b9x, rfl, H2, m2⟩
     exact ⟨_, (b3, a6, c7, b9x), rfl, rfl, ⟨H2.sel' [0, 1, 2] rfl rfl, m.comp0 m2⟩, stab [0, 1, 2, 3] (by kernel_rfl) ⟨rfl, rfl, rfl, rfl, trivial⟩⟩
    refine ⟨?_, ?_⟩
    ·rintro ⟨b3, a6, c7, b9⟩ ρ σm hJ hoff hdep
     have e13 : look 58 ρ 13 = (.agg #[(I Bz.1), (I Bz.2)]) := hdep 3 rfl rfl 13 rfl
     obtain ⟨H, m⟩ := id hJ
     refine dp_ex wn (ex_buildSlice (el := n0) (xs := ([(Bz.1, Bz.2)] : List (Int × Int))) (ps := [(0, (.agg #[(I Bz.1), (I Bz.2)]))]) (cs := [(I Bz.1), (I Bz.2)]) H hn0 Tryz.underlying30 ti43 rfl (by show [(0, look 58 ρ 13)] = _; rw [e13]) (by kernel_rfl) (.cons (c := [(I Bz.1), (I Bz.2)]) ⟨[(I Bz.1)], [(I Bz.2)], rfl, rfl, rfl⟩ (.nil)) rfl) ?_
     rintro _ σq ⟨b9x, rfl, H2, m2⟩
     exact ⟨_, (b3, a6, c7, b9x), rfl, rfl, ⟨H2.sel' [0, 1, 2, 3] rfl rfl, m.comp0 m2⟩, stab [0, 1, 2, 3] (by kernel_rfl) ⟨rfl, rfl, rfl, rfl, trivial⟩⟩
    refine ⟨?_, ?_⟩
    ·rintro ⟨b3, a6, c7, b9⟩ ρ σm hJ hoff hdep
     have e13 : look 58 ρ 13 = (.agg #[(I Bz.1), (I Bz.2)]) := hdep 3 rfl rfl 13 rfl
     obtain ⟨H, m⟩ := id hJ
     refine dp_ex wn (ex_buildSlice (el := n0) (xs := ([(Bz.1, Bz.2)] : List (Int × Int))) (ps := [(0, (.agg #[(I Bz.1), (I Bz.2)]))]) (cs := [(I Bz.1), (I Bz.2)]) H hn0 Tryz.underlying30 ti43 rfl (by show [(0, look 58 ρ 13)] = _; rw [e13]) (by kernel_rfl) (.cons (c := [(I Bz.1), (I Bz.2)]) ⟨[(I Bz.1)], [(I Bz.2)], rfl, rfl, rfl⟩ (.nil)) rfl) ?_
     rintro _ σq ⟨b9x, rfl, H2, m2⟩
     exact ⟨_, (b3, a6, c7, b9x), rfl, rfl, ⟨H2.sel' [0, 1, 2, 3] rfl rfl, m.comp0 m2⟩, stab [0, 1, 2, 3] (by kernel_rfl) ⟨rfl, rfl, rfl, rfl, trivial⟩⟩
    trivial) ?_
  exact all_nil
 ·rintro ⟨b3, a6, c7, b9⟩ ρ σ10 hJ hoff hrel
  have e2 := look_off (N := 58) (hoff 2 rfl) rfl
  have e12 := hrel 2 rfl 12 rfl
  have e14 := hrel 4 rfl 14 rfl
  obtain ⟨H, -⟩ := (show Hp S0 σ0 σ10 [Ch.own n0 n0 (Sl (some ⟨b9, 0, none⟩) ([(Bz.1, Bz.2)] : List (Int × Int)) 1) ([(Bz.1, Bz.2)] : List (Int × Int)), Ch.own n0 n0 (Sl a6 xs4 c7) xs4, Ch.bx n0 b1 0 [(I Bz.1), (I Bz.2)] [] [], Ch.ro 0 (Sl Aw Av Ax) Av] ∧ Md (fun i => (cov []) i ∨ (fun b => blk (Sl (some ⟨b3, 0, none⟩) ([] : List (Int × Int)) 0) = some b) i) σ2 σ10 from hJ)
  clear hJ Hs
  rw [fr_lookL (L := [(2, (I Ht)), (12, (Sl a6 xs4 c7)), (14, (Sl (some ⟨b9, 0, none⟩) ([(Bz.1, Bz.2)] : List (Int × Int)) 1))]) ⟨e2, e12, e14, trivial⟩]
  clear hoff hrel e2 e12 e14
  revert h; refine br fun xs11 hx12 h => ?_
  refine st_ex (ex_append H (i := 1) rfl Tryz.underlying30 Tryz.underlying30 ti43 rfl rfl (by decide) (H.own 0 rfl).rd hx12 hn0 rfl rfl) wn ?_
  rintro _ σ15 ⟨a13, c14, rfl, H, -⟩
  refine sa (Sl a13 xs11 c14) rfl (w_end (q_then (c_seq (c_seq (rg (sm (Sl a13 xs11 c14) rfl (st (v := (I (xs11.length : Int))) (rv_len Tryz.underlying30 rfl) (st (v := (I (w64 ((xs11.length : Int) - 1)))) (rv_sub (a := (xs11.length : Int)) (b := 1) rfl rfl) (sa (I (w64 ((xs11.length : Int) - 1))) rfl (w_end (q_then ?_)))))))))))
  obtain ⟨o16, hj, h'⟩ := bind_some h
  clear h
  refine c_cut (fun e a w => e = .normal ∧ ∃ (ρ : Nat → Value) (σ : St), a = fr 58 (updL ρ [(2, (I Ht)), (7, (Sl a13 o16 c14))]) ∧ w = σ.w ∧ Hp S0 σ0 σ [Ch.own n0 n0 (Sl a13 o16 c14) o16] ∧ o16.length = xs11.length) ?_ ?_
  ·clear h'
   rename _ = some o16 => h
   refine c_blk (wp_loopM _ h (fun s17 a w => ∃ (ρ : Nat → Value) (σ : St), a = fr 58 (updL ρ [(2, (I Ht)), (7, (Sl a13 s17.1 c14)), (8, (I s17.2))]) ∧ w = σ.w ∧ Hp S0 σ0 σ [Ch.own n0 n0 (Sl a13 s17.1 c14) s17.1] ∧ s17.1.length = xs11.length) ⟨_, σ15, fr_join ⟨rfl, rfl, rfl, trivial⟩, rfl, H.sel' [0] rfl rfl, rfl⟩ ?_)
   clear h H
   rintro s17 a w o ⟨ρ, σ18, rfl, rfl, H, hn19⟩ h hres
   refine c_seq (c_seq ?_)
   obtain ⟨o20, hj, h'⟩ := bind_some h
   clear h
   refine c_cut (fun e a w => e = .normal ∧ ∃ (ρ : Nat → Value) (σ : St), a = fr 58 (updL ρ [(2, (I Ht)), (7, (Sl a13 s17.1 c14)), (8, (I s17.2)), (32, (B o20))]) ∧ w = σ.w ∧ Hp S0 σ0 σ [Ch.own n0 n0 (Sl a13 s17.1 c14) s17.1]) ?_ ?_
   ·clear h'
    rename _ = some o20 => h
    refine rgP (σ := σ18) 12 (by kernel_rfl) (by kernel_rfl) (by kernel_rfl) ?_
    refine sq (v := (I s17.2)) (rv_move rfl) (sq (v := (B (decide (0 < s17.2)))) (rv_gtr (a := s17.2) (b := 0) rfl rfl) (sq (v := (B (decide (0 < s17.2)))) (rv_move rfl) ?_))
    rcases Bool.eq_false_or_eq_true (decide (0 < s17.2)) with hb21 | hb21
    ·replace h := bif_t hb21 h
     refine sq_g (v := (Sl a13 s17.1 c14)) (congrArg some hb21) (rv_move rfl) (sq_g (v := (I s17.2)) (congrArg some hb21) (rv_move rfl) ?_)
     revert h; refine br fun x22 hx23 h => ?_
     obtain ⟨b25, o26, hi24, -⟩ := (H.own 0 rfl).ix hx23
     refine sq_g (v := (pt b25 o26)) (congrArg some hb21) (rv_ix Tryz.underlying30 ti43 rfl rfl hi24) ?_
     obtain ⟨_, ⟨_, _, rfl, rfl, rfl⟩, hl27, hc28⟩ := ((H.own 0 rfl).at hx23 hi24).cells
     refine sq_g (v := (.agg #[(I x22.1), (I x22.2)])) (congrArg some hb21) (rv_load Tryz.underlying43 rfl ti43 rfl hl27 hc28) (sq_g (v := (Sl a13 s17.1 c14)) (congrArg some hb21) (rv_move rfl) (sq_g (v := (I s17.2)) (congrArg some hb21) (rv_move rfl) (sq_g (v := (I (w64 (s17.2 - 1)))) (congrArg some hb21) (rv_sub (a := s17.2) (b := 1) rfl rfl) ?_)))
     revert h; refine br fun x29 hx30 h => ?_
     obtain ⟨b32, o33, hi31, -⟩ := (H.own 0 rfl).ix hx30
     refine sq_g (v := (pt b32 o33)) (congrArg some hb21) (rv_ix Tryz.underlying30 ti43 rfl rfl hi31) ?_
     obtain ⟨_, ⟨_, _, rfl, rfl, rfl⟩, hl34, hc35⟩ := ((H.own 0 rfl).at hx30 hi31).cells
     refine sq_g (v := (.agg #[(I x29.1), (I x29.2)])) (congrArg some hb21) (rv_load Tryz.underlying43 rfl ti43 rfl hl34 hc35) (sq_end ?_)
     intro σ36 hm37
     replace H := H.grow (hm37.mono fun _ h => h); clear hm37
     revert h; refine br fun r38 hx39 h => ?_
     have hc40 := c_spec_nearer hx39
     refine st_call (cx_call hc40 (ent_f hc40.fn rfl) hn0 (H.sel' [0] rfl rfl : Hp S0 σ0 _ ([] ++ _))) (wanted_yes rfl (by exact (congrArg some hb21))) ?_
     rintro _ σ41 ⟨_, ⟨rfl, rfl⟩, H, -⟩
     replace H : Hp _ _ _ [_] := H
     refine st (v := (B r38)) (rv_pick_t (congrArg B hb21) rfl) (w_end ?_)
     obtain rfl := sj h
     exact ⟨rfl, _, σ41, fr_join ⟨rfl, rfl, rfl, rfl, trivial⟩, rfl, H.sel' [0] rfl rfl⟩
    ·replace h := bif_f hb21 h
     refine sq_skip (congrArg some hb21) (sq_skip (congrArg some hb21) (sq_skip (congrArg some hb21) (sq_skip (congrArg some hb21) (sq_skip (congrArg some hb21) (sq_skip (congrArg some hb21) (sq_skip (congrArg some hb21) (sq_skip (congrArg some hb21) (sq_skip (congrArg some hb21) (sq_end ?_)))))))))
     intro σ42 hm43
     replace H := H.grow (hm43.mono fun _ h => h); clear hm43
     refine st_skip (congrArg some hb21) (st (v := (B false)) (rv_pick_f (congrArg B hb21) rfl) (w_end ?_))
     obtain rfl := sj h
     exact ⟨rfl, _, σ42, fr_join ⟨rfl, rfl, rfl, rfl, trivial⟩, rfl, H.sel' [0] rfl rfl⟩
   ·clear hj
    have h := h'
    clear h' H
    rintro e a w ⟨rfl, ρ, σ44, rfl, rfl, H⟩
    refine q_then ?_
    refine cd_cond o20 rfl (fun hb45 => ?_) (fun hb45 => ?_)
    ·replace h := bif_t hb45 h
     refine c_skip (q_then (c_seq (c_blk (c_seq (rg (sm (Sl a13 s17.1 c14) rfl (sm (I s17.2) rfl ?_)))))))
     revert h; refine br fun x46 hx47 h => ?_
     obtain ⟨b49, o50, hi48, -⟩ := (H.own 0 rfl).ix hx47
     refine st (v := (pt b49 o50)) (rv_ix Tryz.underlying30 ti43 rfl rfl hi48) ?_
     obtain ⟨_, ⟨_, _, rfl, rfl, rfl⟩, hl51, hc52⟩ := ((H.own 0 rfl).at hx47 hi48).cells
     refine st (v := (.agg #[(I x46.1), (I x46.2)])) (rv_load Tryz.underlying43 rfl ti43 rfl hl51 hc52) (st_ex (ex_alloc (cs := [(I 0), (I 0)]) H hn0 ti43 rfl) wn ?_)
     rintro _ σ54 ⟨b53, rfl, H, -⟩
     refine st_exS (ex_store_box (k := 0) (cs := [(I 0), (I 0)]) (vs := [(I x46.1), (I x46.2)]) (cs' := [(I x46.1), (I x46.2)]) H (i := 0) rfl ti43 rfl rfl rfl rfl rfl (Nat.le_of_ble_eq_true rfl) (by simp [plain]) rfl) wn ?_
     rintro σ55 ⟨H, -⟩
     refine w_end (q_then (c_seq (rg (sm (Sl a13 s17.1 c14) rfl (sm (I s17.2) rfl (sm (Sl a13 s17.1 c14) rfl (sm (I s17.2) rfl (st (v := (I (w64 (s17.2 - 1)))) (rv_sub (a := s17.2) (b := 1) rfl rfl) ?_))))))))
     revert h; refine br fun x56 hx57 h => ?_
     obtain ⟨b59, o60, hi58, -⟩ := (H.own 1 rfl).ix hx57
     refine st (v := (pt b59 o60)) (rv_ix Tryz.underlying30 ti43 rfl rfl hi58) ?_
     obtain ⟨_, ⟨_, _, rfl, rfl, rfl⟩, hl61, hc62⟩ := ((H.own 1 rfl).at hx57 hi58).cells
     refine st (v := (.agg #[(I x56.1), (I x56.2)])) (rv_load Tryz.underlying43 rfl ti43 rfl hl61 hc62) ?_
     revert h; refine br fun x63 hx64 h => ?_
     obtain ⟨b66, o67, hi65, -⟩ := (H.own 1 rfl).ix hx64
     refine st (v := (pt b66 o67)) (rv_ix Tryz.underlying30 ti43 rfl rfl hi65) ?_
     refine st_exS (ex_store_own (e' := (x56.1, x56.2)) (vs := [(I x56.1), (I x56.2)]) (k := 0) H (i := 1) rfl ti43 hx64 hi65 rfl rfl rfl rfl rfl (Nat.le_of_ble_eq_true rfl) (by simp [plain]) (by rintro _ ⟨_, _, rfl, rfl, rfl⟩; exact ⟨[(I x56.1)], [(I x56.2)], rfl, rfl, rfl⟩)) wn ?_
     rintro σ68 ⟨H, -⟩
     have hsl : (Sl a13 s17.1 c14) = (Sl a13 (s17.1.set s17.2.toNat (x56.1, x56.2)) c14) := sl_len List.length_set.symm
     rw [hsl]; rw [hsl] at H; clear hsl
     refine w_end (q_then (rg (sm (Sl a13 (s17.1.set s17.2.toNat (x56.1, x56.2)) c14) rfl (sm (I s17.2) rfl (st (v := (I (w64 (s17.2 - 1)))) (rv_sub (a := s17.2) (b := 1) rfl rfl) ?_)))))
     have hc69 := H.cells 1 rfl
     refine st (v := (.agg #[(I x46.1), (I x46.2)])) (rv_load (cs := [(I x46.1), (I x46.2)]) Tryz.underlying43 rfl ti43 rfl rfl hc69) ?_
     revert h; refine br fun x70 hx71 h => ?_
     obtain ⟨b73, o74, hi72, -⟩ := (H.own 0 rfl).ix hx71
     refine st (v := (pt b73 o74)) (rv_ix Tryz.underlying30 ti43 rfl rfl hi72) ?_
     refine st_exS (ex_store_own (e' := (x46.1, x46.2)) (vs := [(I x46.1), (I x46.2)]) (k := 0) H (i := 0) rfl ti43 hx71 hi72 rfl rfl rfl rfl rfl (Nat.le_of_ble_eq_true rfl) (by simp [plain]) (by rintro _ ⟨_, _, rfl, rfl, rfl⟩; exact ⟨[(I x46.1)], [(I x46.2)], rfl, rfl, rfl⟩)) wn ?_
     rintro σ75 ⟨H, -⟩
     have hsl : (Sl a13 (s17.1.set s17.2.toNat (x56.1, x56.2)) c14) = (Sl a13 ((s17.1.set s17.2.toNat (x56.1, x56.2)).set (w64 (s17.2 - 1)).toNat (x46.1, x46.2)) c14) := sl_len List.length_set.symm
     rw [hsl]; rw [hsl] at H; clear hsl
     refine w_end (q_blk (q_then (rg (sm (I s17.2) rfl (st (v := (I (w64 (s17.2 - 1)))) (rv_sub (a := s17.2) (b := 1) rfl rfl) (sa (I (w64 (s17.2 - 1))) rfl (w_end (q_then ?_))))))))
     obtain rfl := sj h
     exact ⟨_, rfl, _, σ75, fr_join ⟨rfl, rfl, rfl, trivial⟩, rfl, H.sel' [0] rfl rfl, (List.length_set.trans (List.length_set.trans hn19))⟩
    ·replace h := bif_f hb45 h
     refine c_exit (q_then_x (q_then_x (q_blk_hit ?_)))
     obtain rfl := sj h
     obtain rfl := hres _ rfl
     exact ⟨rfl, _, σ44, fr_join ⟨rfl, rfl, trivial⟩, rfl, H.sel' [0] rfl rfl, hn19⟩
  ·clear hj
   have h := h'
   clear h' H
   rintro e a w ⟨rfl, ρ, σ76, rfl, rfl, H, hn77⟩
   refine q_then (c_seq (rg (sm (Sl a13 o16 c14) rfl (sm (I Ht) rfl (sm (Sl a13 o16 c14) rfl (st (v := (I (o16.length : Int))) (rv_len Tryz.underlying30 rfl) (st (v := (I (min Ht (o16.length : Int)))) (rv_min rfl rfl) ?_)))))))
   revert h; refine br fun xs78 hx79 h => ?_
   obtain ⟨a80, c81, hs82, hR83, hb84⟩ := (H.own 0 rfl).slice hx79
   replace H := (H.front (i := 0) rfl).turn (d := Ch.own n0 n0 (Sl a80 xs78 c81) xs78) (fun _ => hR83) hb84; clear hR83 hb84
   refine st (v := (Sl a80 xs78 c81)) (rv_slice_h Tryz.underlying30 ti43 hs82 rfl rfl) (sa (Sl a80 xs78 c81) rfl (w_end (q_then (c_ret ?_))))
   obtain rfl := sj h
   exact fin_ret (v := (Sl a80 xs78 c81)) (results_ok Tryz.results61 (res_tmp (v := (Sl a80 xs78 c81)) rfl res_nil) rfl) ⟨a80, c81, rfl, rfl⟩ (H.sel' [0] rfl rfl)

theorem c_spec_size {By : Int}  {r : Int} (h : M.spec_size By = some r) :
    Cal2 Tryz.prog 123 [(I By)] [] (fun n0 v L => v = (I r) ∧ L = []) := by
 refine cal2 (n := 7) Tryz.func123 rfl rfl rfl rfl ?_
 intro S0 σ0 n0 hn0 H
 unfold M.spec_size at h
 refine c_seq (rg (sa (I 0) rfl (w_end (q_then (c_seq (rg (sm (I By) rfl (sm (I By) rfl (st (v := (I (w64 (0 - By)))) (rv_neg (a := By) rfl) (st (v := (I (max By (w64 (0 - By))))) (rv_max rfl rfl) (sa (I (max By (w64 (0 - By)))) rfl ?_)))))))))))
 refine w_end (q_then (c_ret ?_))
 obtain rfl := sj h
 exact fin_ret (v := (I (max By (w64 (0 - By))))) (results_ok Tryz.results123 (res_tmp (v := (I (max By (w64 (0 - By))))) rfl res_nil) rfl) ⟨rfl, rfl⟩ (H.sel' [] rfl rfl)

theorem c_spec_toInt {Ft : Bool}  {r : Int} (h : M.spec_toInt Ft = some r) :
    Cal2 Tryz.prog 124 [(B Ft)] [] (fun n0 v L => v = (I r) ∧ L = []) := by
 refine cal2 (n := 4) Tryz.func124 rfl rfl rfl rfl ?_
 intro S0 σ0 n0 hn0 H
 unfold M.spec_toInt at h
 refine c_seq (rg (sa (I 0) rfl (w_end (q_then (c_seq (c_seq (rg (sm (B Ft) rfl (w_end (q_then ?_))))))))))
 refine cd_cond Ft rfl (fun hb1 => ?_) (fun hb1 => ?_)
 ·replace h := bif_t hb1 h
  refine c_seq (rg (sa (I 1) rfl (w_end (q_then (c_ret (q_then_r ?_))))))
  obtain rfl := sj h
  exact fin_ret (v := (I 1)) (results_ok Tryz.results124 (res_tmp (v := (I 1)) rfl res_nil) rfl) ⟨rfl, rfl⟩ (H.sel' [] rfl rfl)
 ·replace h := bif_f hb1 h
  refine c_skip (q_then (c_seq (rg (sa (I 0) rfl (w_end (q_then (c_ret ?_)))))))
  obtain rfl := sj h
  exact fin_ret (v := (I 0)) (results_ok Tryz.results124 (res_tmp (v := (I 0)) rfl res_nil) rfl) ⟨rfl, rfl⟩ (H.sel' [] rfl rfl)

theorem c_spec_dist {Az : Int} {Ds : List Int} {Dt : List Int} {Du : Option Addr} {Dv : Nat} {Dw : Option Addr} {Dx : Nat} {r : Int} (h : M.spec_dist Az Ds Dt = some r) :
    Cal2 Tryz.prog 62 [(I Az), (Sl Du Ds Dv), (Sl Dw Dt Dx)] [Ch.ro 0 (Sl Du Ds Dv) Ds, Ch.ro 0 (Sl Dw Dt Dx) Dt] (fun n0 v L => v = (I r) ∧ L = []) := by
 refine cal2 (n := 50) Tryz.func62 rfl rfl rfl rfl ?_
 intro S0 σ0 n0 hn0 H
 unfold M.spec_dist at h
 refine c_seq (rg (sa (I 0) rfl (w_end (q_then (c_seq (rg (sa (I 0) rfl (w_end (q_then (c_seq (c_seq ?_)))))))))))
 refine rg (sa (I 0) rfl (w_end (q_then ?_)))
 obtain ⟨o1, hj, h'⟩ := bind_some h
 clear h
 refine c_cut (fun e a w => e = .normal ∧ ∃ (ρ : Nat → Value) (σ : St), a = fr 50 (updL ρ [(7, (I o1))]) ∧ w = σ.w ∧ Hp S0 σ0 σ []) ?_ ?_
 ·clear h'
  rename _ = some o1 => h
  refine c_blk (wp_loopM _ h (fun s2 a w => ∃ (ρ : Nat → Value) (σ : St), a = fr 50 (updL ρ [(0, (I Az)), (1, (Sl Du Ds Dv)), (2, (Sl Dw Dt Dx)), (7, (I s2.1)), (8, (I s2.2))]) ∧ w = σ.w ∧ Hp S0 σ0 σ [Ch.ro 0 (Sl Du Ds Dv) Ds, Ch.ro 0 (Sl Dw Dt Dx) Dt]) ⟨_, σ0, fr_join ⟨rfl, rfl, rfl, rfl, rfl, trivial⟩, rfl, H.sel' [0, 1] rfl rfl⟩ ?_)
  clear h H
  rintro s2 a w o ⟨ρ, σ3, rfl, rfl, H⟩ h hres
  refine c_seq (c_seq (rg (sm (I s2.2) rfl (sm (Sl Du Ds Dv) rfl (st (v := (I (Ds.length : Int))) (rv_len Tryz.underlying27 rfl) (st (v := (B (decide (s2.2 < (Ds.length : Int))))) (rv_lss (a := s2.2) (b := (Ds.length : Int)) rfl rfl) (w_end (q_then ?_))))))))
  refine cd_cond (decide (s2.2 < (Ds.length : Int))) rfl (fun hb4 => ?_) (fun hb4 => ?_)
  ·replace h := bif_t hb4 h
   refine c_skip (q_then (c_seq ?_))
   obtain ⟨o5, hj, h'⟩ := bind_some h
   clear h
   refine c_cut (fun e a w => e = .normal ∧ ∃ (ρ : Nat → Value) (σ : St), a = fr 50 (updL ρ [(0, (I Az)), (1, (Sl Du Ds Dv)), (2, (Sl Dw Dt Dx)), (7, (I o5)), (8, (I s2.2))]) ∧ w = σ.w ∧ Hp S0 σ0 σ [Ch.ro 0 (Sl Du Ds Dv) Ds, Ch.ro 0 (Sl Dw Dt Dx) Dt]) ?_ ?_
   ·clear h'
    rename _ = some o5 => h
    refine c_blk (c_seq ?_)
    refine rgP (σ := σ3) 8 (by kernel_rfl) (by kernel_rfl) (by kernel_rfl) ?_
    refine sq (v := (Sl Du Ds Dv)) (rv_move rfl) (sq (v := (I s2.2)) (rv_move rfl) ?_)
    revert h; refine br fun x6 hx7 h => ?_
    obtain ⟨b9, o10, hi8, -⟩ := (H.ro 0 rfl).ix hx7
    refine sq (v := (pt b9 o10)) (rv_ix Tryz.underlying27 ti3 rfl rfl hi8) ?_
    have hc11 := ((H.ro 0 rfl).at hx7 hi8).int
    refine sq (v := (I x6)) (rv_load1 Tryz.underlying3 rfl rfl hc11) (sq (v := (Sl Dw Dt Dx)) (rv_move rfl) (sq (v := (I s2.2)) (rv_move rfl) ?_))
    revert h; refine br fun x12 hx13 h => ?_
    obtain ⟨b15, o16, hi14, -⟩ := (H.ro 1 rfl).ix hx13
    refine sq (v := (pt b15 o16)) (rv_ix Tryz.underlying27 ti3 rfl rfl hi14) ?_
    have hc17 := ((H.ro 1 rfl).at hx13 hi14).int
    refine sq (v := (I x12)) (rv_load1 Tryz.underlying3 rfl rfl hc17) (sq_end ?_)
    intro σ18 hm19
    replace H := H.grow (hm19.mono fun _ h => h); clear hm19
    refine st (v := (I (w64 (x6 - x12)))) (rv_sub (a := x6) (b := x12) rfl rfl) ?_
    revert h; refine br fun r20 hx21 h => ?_
    have hc22 := c_spec_size hx21
    refine st_call (cx_call hc22 (ent_f hc22.fn rfl) hn0 (H.sel' [0, 1] rfl rfl : Hp S0 σ0 _ ([] ++ _))) wn ?_
    rintro _ σ23 ⟨_, ⟨rfl, rfl⟩, H, -⟩
    replace H : Hp _ _ _ [_, _] := H
    refine sa (I r20) rfl (w_end (q_then (c_seq (rg (sm (I Az) rfl (w_end (q_then (c_blk (c_seq (rg (st (v := (B (Az == 1))) (rv_eql (a := Az) (b := 1) rfl rfl) ?_)))))))))))
    refine sa (B (Az == 1)) rfl (w_end (q_then ?_))
    refine cd_cond (Az == 1) rfl (fun hb24 => ?_) (fun hb24 => ?_)
    ·replace h := bif_t hb24 h
     refine rg (sm (I s2.1) rfl (sm (I r20) rfl (st (v := (I (w64 (s2.1 + r20)))) (rv_add (a := s2.1) (b := r20) rfl rfl) (sa (I (w64 (s2.1 + r20))) rfl (w_end (q_blk (q_blk ?_)))))))
     obtain rfl := sj h
     exact ⟨rfl, _, σ23, fr_join ⟨rfl, rfl, rfl, rfl, rfl, trivial⟩, rfl, H.sel' [0, 1] rfl rfl⟩
    ·replace h := bif_f hb24 h
     refine c_seq (rg (st (v := (B (Az == 2))) (rv_eql (a := Az) (b := 2) rfl rfl) (sa (B (Az == 2)) rfl (w_end (q_then ?_)))))
     refine cd_cond (Az == 2) rfl (fun hb25 => ?_) (fun hb25 => ?_)
     ·replace h := bif_t hb25 h
      refine rg (sm (I s2.1) rfl (sm (I r20) rfl (st (v := (I (max s2.1 r20))) (rv_max rfl rfl) (sa (I (max s2.1 r20)) rfl (w_end (q_blk (q_blk ?_)))))))
      obtain rfl := sj h
      exact ⟨rfl, _, σ23, fr_join ⟨rfl, rfl, rfl, rfl, rfl, trivial⟩, rfl, H.sel' [0, 1] rfl rfl⟩
     ·replace h := bif_f hb25 h
      refine c_seq (rg (st (v := (B (Az == 3))) (rv_eql (a := Az) (b := 3) rfl rfl) (sa (B (Az == 3)) rfl (w_end (q_then ?_)))))
      refine cd_cond (Az == 3) rfl (fun hb26 => ?_) (fun hb26 => ?_)
      ·replace h := bif_t hb26 h
       refine rg (sm (I s2.1) rfl (sm (I r20) rfl (sm (I r20) rfl (st (v := (I (w64 (r20 * r20)))) (rv_mul (a := r20) (b := r20) rfl rfl) (st (v := (I (w64 (s2.1 + (w64 (r20 * r20)))))) (rv_add (a := s2.1) (b := (w64 (r20 * r20))) rfl rfl) (sa (I (w64 (s2.1 + (w64 (r20 * r20))))) rfl (w_end (q_blk (q_blk ?_)))))))))
       obtain rfl := sj h
       exact ⟨rfl, _, σ23, fr_join ⟨rfl, rfl, rfl, rfl, rfl, trivial⟩, rfl, H.sel' [0, 1] rfl rfl⟩
      ·replace h := bif_f hb26 h
       refine rg (sm (I s2.1) rfl (sm (I r20) rfl (st (v := (B (decide (0 < r20)))) (rv_gtr (a := r20) (b := 0) rfl rfl) ?_)))
       revert h; refine br fun r27 hx28 h => ?_
       have hc29 := c_spec_toInt hx28
       refine st_call (cx_call hc29 (ent_f hc29.fn rfl) hn0 (H.sel' [0, 1] rfl rfl : Hp S0 σ0 _ ([] ++ _))) wn ?_
       rintro _ σ30 ⟨_, ⟨rfl, rfl⟩, H, -⟩
       replace H : Hp _ _ _ [_, _] := H
       refine st (v := (I (w64 (s2.1 + r27)))) (rv_add (a := s2.1) (b := r27) rfl rfl) (sa (I (w64 (s2.1 + r27))) rfl (w_end (q_blk (q_blk ?_))))
       obtain rfl := sj h
       exact ⟨rfl, _, σ30, fr_join ⟨rfl, rfl, rfl, rfl, rfl, trivial⟩, rfl, H.sel' [0, 1] rfl rfl⟩
   ·clear hj
    have h := h'
    clear h' H
    rintro e a w ⟨rfl, ρ, σ31, rfl, rfl, H⟩
    refine q_then (rg (sm (I s2.2) rfl (st (v := (I (w64 (s2.2 + 1)))) (rv_add (a := s2.2) (b := 1) rfl rfl) (sa (I (w64 (s2.2 + 1))) rfl (w_end (q_then ?_))))))
    obtain rfl := sj h
    exact ⟨_, rfl, _, σ31, fr_join ⟨rfl, rfl, rfl, rfl, rfl, trivial⟩, rfl, H.sel' [0, 1] rfl rfl⟩
  ·replace h := bif_f hb4 h
   refine c_exit (q_then_x (q_then_x (q_blk_hit ?_)))
   obtain rfl := sj h
   obtain rfl := hres _ rfl
   exact ⟨rfl, _, σ3, fr_join ⟨rfl, trivial⟩, rfl, H.sel' [] rfl rfl⟩
 ·clear hj
  have h := h'
  clear h' H
  rintro e a w ⟨rfl, ρ, σ32, rfl, rfl, H⟩
  refine q_then (c_seq (rg (sm (I o1) rfl (sa (I o1) rfl (w_end (q_then (c_ret ?_)))))))
  obtain rfl := sj h
  exact fin_ret (v := (I o1)) (results_ok Tryz.results62 (res_tmp (v := (I o1)) rfl res_nil) rfl) ⟨rfl, rfl⟩ (H.sel' [] rfl rfl)

theorem c_spec_decode {Ft : (List (List Int)) × (List (List Int))} {Hu : Int} {Fu : Option Addr} {Fv : Nat} {Fw : Option Addr} {Fx : Nat} {r : (List Int)} (h : M.spec_decode Ft Hu = some r) :
    Cal2 Tryz.prog 63 [(.agg #[(Sl Fu Ft.1 Fv), (Sl Fw Ft.2 Fx)]), (I Hu)] [Ch.ro 0 (Sl Fu Ft.1 Fv) Ft.1, Ch.ro 0 (Sl Fw Ft.2 Fx) Ft.2] (fun n0 v L => ∃ (az1 : Option Addr), ∃ (cz2 : Nat), v = (Sl az1 r cz2) ∧ L = [Ch.own n0 n0 (Sl az1 r cz2) r]) := by
 refine cal2 (n := 20) Tryz.func63 rfl rfl rfl rfl ?_
 intro S0 σ0 n0 hn0 H
 unfold M.spec_decode at h
 refine c_seq (rg (st_ex (ex_box (cs := [(Sl Fu Ft.1 Fv), (Sl Fw Ft.2 Fx)]) H hn0 rfl rfl) wn ?_))
 rintro _ σ2 ⟨b1, rfl, H, -⟩
 refine sa (.slice none 0 0) rfl (w_end (q_then (c_seq ?_)))
 have hc4 := H.cell (u := (Sl Fu Ft.1 Fv)) (o' := 0) 0 0 rfl rfl rfl
 revert h; refine br fun x5 hx6 h => ?_
 obtain ⟨b8, o9, hi7, -⟩ := (H.ro 1 rfl).ix hx6
 obtain ⟨v13, hc14, hR12⟩ := ((H.ro 1 rfl).at hx6 hi7).slice
 obtain ⟨a10, c11, rfl⟩ := hR12.isSl
 replace H := H.add (d := Ch.ro 0 (Sl a10 x5 c11) x5) hR12 (fun _ h => h)
 clear hR12
 revert h; refine br fun xs15 hx16 h => ?_
 have hc19 := H.cell (u := (Sl Fw Ft.2 Fx)) (o' := 1) 1 1 rfl rfl rfl
 revert h; refine br fun x20 hx21 h => ?_
 obtain ⟨b23, o24, hi22, -⟩ := (H.ro 3 rfl).ix hx21
 obtain ⟨v28, hc29, hR27⟩ := ((H.ro 3 rfl).at hx21 hi22).slice
 obtain ⟨a25, c26, rfl⟩ := hR27.isSl
 replace H := H.add (d := Ch.ro 0 (Sl a25 x20 c26) x20) hR27 (fun _ h => h)
 clear hR27
 have Hs := H
 refine rg2 (σ := σ2) (Nm := (Nat) × (Option Addr) × (Nat)) 14 [0, 7] [[false, false], [true, false], [true, true]] [[(0, 1)], [(0, 0), (1, 1)], [(0, 0), (1, 1)], [(0, 0), (1, 1)], [(0, 0), (1, 1)], [(0, 0), (1, 1)], [(0, 0), (1, 1)], [(1, 2)], [(0, 0), (1, 1), (2, 2)], [(0, 0), (1, 1), (2, 2)], [(0, 0), (1, 1), (2, 2)], [(0, 0), (1, 1), (2, 2)], [(0, 0), (1, 1), (2, 2)], [(0, 0), (1, 1), (2, 2)]] 2 [fun ((b3, a17, c18) : (Nat) × (Option Addr) × (Nat)) => fun σm => Hp S0 σ0 σm [Ch.ro 0 (Sl a25 x20 c26) x20, Ch.ro 0 (Sl a10 x5 c11) x5, Ch.bx n0 b1 0 [(Sl Fu Ft.1 Fv), (Sl Fw Ft.2 Fx)] [] [], Ch.ro 0 (Sl Fu Ft.1 Fv) Ft.1, Ch.ro 0 (Sl Fw Ft.2 Fx) Ft.2] ∧ Md (cov []) σ2 σm, fun ((b3, a17, c18) : (Nat) × (Option Addr) × (Nat)) => fun σm => Hp S0 σ0 σm [Ch.own n0 n0 (Sl (some ⟨b3, 0, none⟩) ([] : List Int) 0) ([] : List Int), Ch.ro 0 (Sl a25 x20 c26) x20, Ch.ro 0 (Sl a10 x5 c11) x5, Ch.bx n0 b1 0 [(Sl Fu Ft.1 Fv), (Sl Fw Ft.2 Fx)] [] [], Ch.ro 0 (Sl Fu Ft.1 Fv) Ft.1, Ch.ro 0 (Sl Fw Ft.2 Fx) Ft.2] ∧ Md (cov []) σ2 σm, fun ((b3, a17, c18) : (Nat) × (Option Addr) × (Nat)) => fun σm => Hp S0 σ0 σm [Ch.own n0 n0 (Sl a17 xs15 c18) xs15, Ch.ro 0 (Sl a25 x20 c26) x20, Ch.ro 0 (Sl a10 x5 c11) x5, Ch.bx n0 b1 0 [(Sl Fu Ft.1 Fv), (Sl Fw Ft.2 Fx)] [] [], Ch.ro 0 (Sl Fu Ft.1 Fv) Ft.1, Ch.ro 0 (Sl Fw Ft.2 Fx) Ft.2] ∧ Md (fun i => (cov []) i ∨ (fun b => blk (Sl (some ⟨b3, 0, none⟩) ([] : List Int) 0) = some b) i) σ2 σm] [fun ((b3, a17, c18) : (Nat) × (Option Addr) × (Nat)) => (Sl (some ⟨b3, 0, none⟩) ([] : List Int) 0), fun ((b3, a17, c18) : (Nat) × (Option Addr) × (Nat)) => (pt b1 0), fun ((b3, a17, c18) : (Nat) × (Option Addr) × (Nat)) => (Sl Fu Ft.1 Fv), fun ((b3, a17, c18) : (Nat) × (Option Addr) × (Nat)) => (I Hu), fun ((b3, a17, c18) : (Nat) × (Option Addr) × (Nat)) => (I (w64 (Hu.tdiv 4))), fun ((b3, a17, c18) : (Nat) × (Option Addr) × (Nat)) => (pt b8 o9), fun ((b3, a17, c18) : (Nat) × (Option Addr) × (Nat)) => (Sl a10 x5 c11), fun ((b3, a17, c18) : (Nat) × (Option Addr) × (Nat)) => (Sl a17 xs15 c18), fun ((b3, a17, c18) : (Nat) × (Option Addr) × (Nat)) => (pt b1 1), fun ((b3, a17, c18) : (Nat) × (Option Addr) × (Nat)) => (Sl Fw Ft.2 Fx), fun ((b3, a17, c18) : (Nat) × (Option Addr) × (Nat)) => (I Hu), fun ((b3, a17, c18) : (Nat) × (Option Addr) × (Nat)) => (I (Hu.tmod 4)), fun ((b3, a17, c18) : (Nat) × (Option Addr) × (Nat)) => (pt b23 o24), fun ((b3, a17, c18) : (Nat) × (Option Addr) × (Nat)) => (Sl a25 x20 c26)] (0, none, 0) (by kernel_rfl) (by kernel_rfl) ?_ ?_ ?_
 ·intro σm m0
  exact ⟨H.grow (m0.mono fun _ h => h.elim), m0⟩
 ·refine all_cons (by
    refine ⟨?_, ?_⟩
    ·rintro ⟨b3, a17, c18⟩ ρ σm hJ hoff hdep
     obtain ⟨H, m⟩ := id hJ
     refine dp_ex wn (ex_buildSlice (el := n0) (xs := ([] : List Int)) (ps := []) (cs := []) H hn0 Tryz.underlying27 ti3 rfl rfl (by kernel_rfl) (.nil) rfl) ?_
     rintro _ σq ⟨b3x, rfl, H2, m2⟩
     exact ⟨_, (b3x, a17, c18), rfl, rfl, ⟨H2.sel' [0, 1, 2, 3, 4, 5] rfl rfl, m.comp0 m2⟩, stab [1, 2, 3, 4, 5, 6, 8, 9, 10, 11, 12, 13] (by kernel_rfl) ⟨rfl, rfl, rfl, rfl, rfl, rfl, rfl, rfl, rfl, rfl, rfl, rfl, trivial⟩⟩
    trivial) ?_
  refine ac rfl (by
    intro k; rintro ⟨b3, a17, c18⟩ ρ σm hJ hoff hdep
    have e2 := look_off (N := 20) (hoff 2 rfl) rfl
    exact dp_v (v := (pt b1 0)) wn (rv_fieldAddr (off := 0) (ft := 23) Tryz.underlying25 rfl ti23 rfl e2) rfl hJ) ?_
  refine all_cons (by
    refine ⟨?_, ?_⟩
    ·rintro ⟨b3, a17, c18⟩ ρ σm hJ hoff hdep
     have e6 := hdep 1 rfl rfl 6 rfl
     obtain ⟨H, m⟩ := id hJ
     have hc4 := H.cell (u := (Sl Fu Ft.1 Fv)) (o' := 0) 2 0 rfl rfl rfl
     exact dp_v (v := (Sl Fu Ft.1 Fv)) wn (rv_load1 Tryz.underlying23 rfl e6 hc4) rfl hJ
    refine ⟨?_, ?_⟩
    ·rintro ⟨b3, a17, c18⟩ ρ σm hJ hoff hdep
     have e6 := hdep 1 rfl rfl 6 rfl
     obtain ⟨H, m⟩ := id hJ
     have hc4 := H.cell (u := (Sl Fu Ft.1 Fv)) (o' := 0) 3 0 rfl rfl rfl
     exact dp_v (v := (Sl Fu Ft.1 Fv)) wn (rv_load1 Tryz.underlying23 rfl e6 hc4) rfl hJ
    trivial) ?_
  refine ac rfl (by
    intro k; rintro ⟨b3, a17, c18⟩ ρ σm hJ hoff hdep
    have e1 := look_off (N := 20) (hoff 1 rfl) rfl
    exact dp_v (v := (I Hu)) wn (rv_move e1) rfl hJ) ?_
  refine ac rfl (by
    intro k; rintro ⟨b3, a17, c18⟩ ρ σm hJ hoff hdep
    have e8 := hdep 3 rfl rfl 8 rfl
    exact dp_v (v := (I (w64 (Hu.tdiv 4)))) wn (rv_quo (a := Hu) (b := 4) e8 rfl (by decide)) rfl hJ) ?_
  refine ac rfl (by
    intro k; rintro ⟨b3, a17, c18⟩ ρ σm hJ hoff hdep
    have e7 := hdep 2 rfl rfl 7 rfl
    have e9 := hdep 4 rfl rfl 9 rfl
    exact dp_v (v := (pt b8 o9)) wn (rv_ix Tryz.underlying23 ti27 e7 e9 hi7) rfl hJ) ?_
  refine all_cons (by
    refine ⟨?_, ?_⟩
    ·rintro ⟨b3, a17, c18⟩ ρ σm hJ hoff hdep
     have e10 := hdep 5 rfl rfl 10 rfl
     obtain ⟨H, m⟩ := id hJ
     replace hc14 := (Hs.ro 3 rfl).hmd hx6 hi7 (k := 0) (by decide) hc14 m
     exact dp_v (v := (Sl a10 x5 c11)) wn (rv_load1 Tryz.underlying27 rfl e10 hc14) rfl hJ
    refine ⟨?_, ?_⟩
    ·rintro ⟨b3, a17, c18⟩ ρ σm hJ hoff hdep
     have e10 := hdep 5 rfl rfl 10 rfl
     obtain ⟨H, m⟩ := id hJ
     replace hc14 := (Hs.ro 3 rfl).hmd hx6 hi7 (k := 0) (by decide) hc14 m
     exact dp_v (v := (Sl a10 x5 c11)) wn (rv_load1 Tryz.underlying27 rfl e10 hc14) rfl hJ
    trivial) ?_
  refine all_cons (by
    refine ⟨?_, ?_⟩
    ·rintro ⟨b3, a17, c18⟩ ρ σm hJ hoff hdep
     have e5 := hdep 0 rfl rfl 5 rfl
     have e11 := hdep 6 rfl rfl 11 rfl
     obtain ⟨H, m⟩ := id hJ
     refine dp_ex wn (ex_append H (i := 0) rfl Tryz.underlying27 Tryz.underlying27 ti3 rfl rfl (by decide) ((H.ro 2 rfl).rd.sc) hx16 hn0 e5 e11) ?_
     rintro _ σq ⟨a17x, c18x, rfl, H2, m2⟩
     exact ⟨_, (b3, a17x, c18x), rfl, rfl, ⟨H2.sel' [0, 1, 2, 3, 4, 5] rfl rfl, m.comp m2⟩, stab [0, 1, 2, 3, 4, 5, 6, 8, 9, 10, 11, 12, 13] (by kernel_rfl) ⟨rfl, rfl, rfl, rfl, rfl, rfl, rfl, rfl, rfl, rfl, rfl, rfl, rfl, trivial⟩⟩
    trivial) ?_
  refine ac rfl (by
    intro k; rintro ⟨b3, a17, c18⟩ ρ σm hJ hoff hdep
    have e2 := look_off (N := 20) (hoff 2 rfl) rfl
    exact dp_v (v := (pt b1 1)) wn (rv_fieldAddr (off := 1) (ft := 23) Tryz.underlying25 rfl ti23 rfl e2) rfl hJ) ?_
  refine all_cons (by
    refine ⟨?_, ?_⟩
    ·rintro ⟨b3, a17, c18⟩ ρ σm hJ hoff hdep
     have e13 := hdep 8 rfl rfl 13 rfl
     obtain ⟨H, m⟩ := id hJ
     have hc19 := H.cell (u := (Sl Fw Ft.2 Fx)) (o' := 1) 2 1 rfl rfl rfl
     exact dp_v (v := (Sl Fw Ft.2 Fx)) wn (rv_load1 Tryz.underlying23 rfl e13 hc19) rfl hJ
    refine ⟨?_, ?_⟩
    ·rintro ⟨b3, a17, c18⟩ ρ σm hJ hoff hdep
     have e13 := hdep 8 rfl rfl 13 rfl
     obtain ⟨H, m⟩ := id hJ
     have hc19 := H.cell (u := (Sl Fw Ft.2 Fx)) (o' := 1) 3 1 rfl rfl rfl
     exact dp_v (v := (Sl Fw Ft.2 Fx)) wn (rv_load1 Tryz.underlying23 rfl e13 hc19) rfl hJ
    refine ⟨?_, ?_⟩
    ·rintro ⟨b3, a17, c18⟩ ρ σm hJ hoff hdep
     have e13 := hdep 8 rfl rfl 13 rfl
     obtain ⟨H, m⟩ := id hJ
     have hc19 := H.cell (u := (Sl Fw Ft.2 Fx)) (o' := 1) 3 1 rfl rfl rfl
     exact dp_v (v := (Sl Fw Ft.2 Fx)) wn (rv_load1 Tryz.underlying23 rfl e13 hc19) rfl hJ
    trivial) ?_
  refine ac rfl (by
    intro k; rintro ⟨b3, a17, c18⟩ ρ σm hJ hoff hdep
    have e1 := look_off (N := 20) (hoff 1 rfl) rfl
    exact dp_v (v := (I Hu)) wn (rv_move e1) rfl hJ) ?_
  refine ac rfl (by
    intro k; rintro ⟨b3, a17, c18⟩ ρ σm hJ hoff hdep
    have e15 := hdep 10 rfl rfl 15 rfl
    exact dp_v (v := (I (Hu.tmod 4))) wn (rv_rem (a := Hu) (b := 4) e15 rfl (by decide)) rfl hJ) ?_
  refine ac rfl (by
    intro k; rintro ⟨b3, a17, c18⟩ ρ σm hJ hoff hdep
    have e14 := hdep 9 rfl rfl 14 rfl
    have e16 := hdep 11 rfl rfl 16 rfl
    exact dp_v (v := (pt b23 o24)) wn (rv_ix Tryz.underlying23 ti27 e14 e16 hi22) rfl hJ) ?_
  refine all_cons (by
    refine ⟨?_, ?_⟩
    ·rintro ⟨b3, a17, c18⟩ ρ σm hJ hoff hdep
     have e17 := hdep 12 rfl rfl 17 rfl
     obtain ⟨H, m⟩ := id hJ
     replace hc29 := (Hs.ro 4 rfl).hmd hx21 hi22 (k := 0) (by decide) hc29 m
     exact dp_v (v := (Sl a25 x20 c26)) wn (rv_load1 Tryz.underlying27 rfl e17 hc29) rfl hJ
    refine ⟨?_, ?_⟩
    ·rintro ⟨b3, a17, c18⟩ ρ σm hJ hoff hdep
     have e17 := hdep 12 rfl rfl 17 rfl
     obtain ⟨H, m⟩ := id hJ
     replace hc29 := (Hs.ro 4 rfl).hmd hx21 hi22 (k := 0) (by decide) hc29 m
     exact dp_v (v := (Sl a25 x20 c26)) wn (rv_load1 Tryz.underlying27 rfl e17 hc29) rfl hJ
    refine ⟨?_, ?_⟩
    ·rintro ⟨b3, a17, c18⟩ ρ σm hJ hoff hdep
     have e17 := hdep 12 rfl rfl 17 rfl
     obtain ⟨H, m⟩ := id hJ
     replace hc29 := (Hs.ro 4 rfl).hmd hx21 hi22 (k := 0) (by decide) hc29 m
     exact dp_v (v := (Sl a25 x20 c26)) wn (rv_load1 Tryz.underlying27 rfl e17 hc29) rfl hJ
    trivial) ?_
  exact all_nil
 ·rintro ⟨b3, a17, c18⟩ ρ σ30 hJ hoff hrel
  have e12 := hrel 7 rfl 12 rfl
  have e18 := hrel 13 rfl 18 rfl
  obtain ⟨H, -⟩ := (show Hp S0 σ0 σ30 [Ch.own n0 n0 (Sl a17 xs15 c18) xs15, Ch.ro 0 (Sl a25 x20 c26) x20, Ch.ro 0 (Sl a10 x5 c11) x5, Ch.bx n0 b1 0 [(Sl Fu Ft.1 Fv), (Sl Fw Ft.2 Fx)] [] [], Ch.ro 0 (Sl Fu Ft.1 Fv) Ft.1, Ch.ro 0 (Sl Fw Ft.2 Fx) Ft.2] ∧ Md (fun i => (cov []) i ∨ (fun b => blk (Sl (some ⟨b3, 0, none⟩) ([] : List Int) 0) = some b) i) σ2 σ30 from hJ)
  clear hJ Hs
  rw [fr_lookL (L := [(12, (Sl a17 xs15 c18)), (18, (Sl a25 x20 c26))]) ⟨e12, e18, trivial⟩]
  clear hoff hrel e12 e18
  revert h; refine br fun xs31 hx32 h => ?_
  refine st_ex (ex_append H (i := 0) rfl Tryz.underlying27 Tryz.underlying27 ti3 rfl rfl (by decide) ((H.ro 1 rfl).rd.sc) hx32 hn0 rfl rfl) wn ?_
  rintro _ σ35 ⟨a33, c34, rfl, H, -⟩
  refine sa (Sl a33 xs31 c34) rfl (w_end (q_then (c_ret ?_)))
  obtain rfl := sj h
  exact fin_ret (v := (Sl a33 xs31 c34)) (results_ok Tryz.results63 (res_tmp (v := (Sl a33 xs31 c34)) rfl res_nil) rfl) ⟨a33, c34, rfl, rfl⟩ (H.sel' [0] rfl rfl)

theorem c_spec_halfDist {Aa : List Int} {Ac : List Int} {Ad : Option Addr} {Ae : Nat} {Af : Option Addr} {Ag : Nat} {r : Int} (h : M.spec_halfDist Aa Ac = some r) :
    Cal2 Tryz.prog 165 [(Sl Ad Aa Ae), (Sl Af Ac Ag)] [Ch.ro 0 (Sl Ad Aa Ae) Aa, Ch.ro 0 (Sl Af Ac Ag) Ac] (fun n0 v L => v = (I r) ∧ L = []) := by
 refine cal2 (n := 8) Tryz.func165 rfl rfl rfl rfl ?_
 intro S0 σ0 n0 hn0 H
 unfold M.spec_halfDist at h
 refine c_seq (rg (sa (I 0) rfl (w_end (q_then (c_seq (rg (sm (Sl Ad Aa Ae) rfl (sm (Sl Af Ac Ag) rfl ?_))))))))
 revert h; refine br fun r1 hx2 h => ?_
 have hc3 := c_spec_dist (Du := Ad) (Dv := Ae) (Dw := Af) (Dx := Ag) hx2
 refine st_call (cx_call hc3 (ent_f hc3.fn rfl) hn0 (H.sel' [0, 1, 0, 1] rfl rfl : Hp S0 σ0 _ ([_, _] ++ _))) wn ?_
 rintro _ σ4 ⟨_, ⟨rfl, rfl⟩, H, -⟩
 replace H : Hp _ _ _ [_, _] := H
 refine sa (I r1) rfl (w_end (q_then (c_ret ?_)))
 obtain rfl := sj h
 exact fin_ret (v := (I r1)) (results_ok Tryz.results165 (res_tmp (v := (I r1)) rfl res_nil) rfl) ⟨rfl, rfl⟩ (H.sel' [] rfl rfl)

theorem c_spec_closest {Av : List (List Int)} {Fy : List Int} {Aw : Option Addr} {Ax : Nat} {Ga : Option Addr} {Gb : Nat} {r : Int} (h : M.spec_closest Av Fy = some r) :
    Cal2 Tryz.prog 125 [(Sl Aw Av Ax), (Sl Ga Fy Gb)] [Ch.ro 0 (Sl Aw Av Ax) Av, Ch.ro 0 (Sl Ga Fy Gb) Fy] (fun n0 v L => v = (I r) ∧ L = []) := by
 refine cal2 (n := 28) Tryz.func125 rfl rfl rfl rfl ?_
 intro S0 σ0 n0 hn0 H
 unfold M.spec_closest at h
 refine c_seq (rg (sa (I 0) rfl (w_end (q_then (c_seq (rg (sa (I 0) rfl (w_end (q_then (c_seq (c_seq ?_)))))))))))
 refine rg (sa (I 1) rfl (w_end (q_then ?_)))
 obtain ⟨o1, hj, h'⟩ := bind_some h
 clear h
 refine c_cut (fun e a w => e = .normal ∧ ∃ (ρ : Nat → Value) (σ : St), a = fr 28 (updL ρ [(5, (I o1))]) ∧ w = σ.w ∧ Hp S0 σ0 σ []) ?_ ?_
 ·clear h'
  rename _ = some o1 => h
  refine c_blk (wp_loopM _ h (fun s2 a w => ∃ (ρ : Nat → Value) (σ : St), a = fr 28 (updL ρ [(0, (Sl Aw Av Ax)), (1, (Sl Ga Fy Gb)), (5, (I s2.1)), (6, (I s2.2))]) ∧ w = σ.w ∧ Hp S0 σ0 σ [Ch.ro 0 (Sl Aw Av Ax) Av, Ch.ro 0 (Sl Ga Fy Gb) Fy]) ⟨_, σ0, fr_join ⟨rfl, rfl, rfl, rfl, trivial⟩, rfl, H.sel' [0, 1] rfl rfl⟩ ?_)
  clear h H
  rintro s2 a w o ⟨ρ, σ3, rfl, rfl, H⟩ h hres
  refine c_seq (c_seq (rg (sm (I s2.2) rfl (sm (Sl Aw Av Ax) rfl (st (v := (I (Av.length : Int))) (rv_len Tryz.underlying23 rfl) (st (v := (B (decide (s2.2 < (Av.length : Int))))) (rv_lss (a := s2.2) (b := (Av.length : Int)) rfl rfl) (w_end (q_then ?_))))))))
  refine cd_cond (decide (s2.2 < (Av.length : Int))) rfl (fun hb4 => ?_) (fun hb4 => ?_)
  ·replace h := bif_t hb4 h
   refine c_skip (q_then (c_seq ?_))
   obtain ⟨o5, hj, h'⟩ := bind_some h
   clear h
   refine c_cut (fun e a w => e = .normal ∧ ∃ (ρ : Nat → Value) (σ : St), a = fr 28 (updL ρ [(0, (Sl Aw Av Ax)), (1, (Sl Ga Fy Gb)), (5, (I o5)), (6, (I s2.2))]) ∧ w = σ.w ∧ Hp S0 σ0 σ [Ch.ro 0 (Sl Aw Av Ax) Av, Ch.ro 0 (Sl Ga Fy Gb) Fy]) ?_ ?_
   ·clear h'
    rename _ = some o5 => h
    refine c_blk (c_seq ?_)
    revert h; refine br fun x6 hx7 h => ?_
    obtain ⟨b9, o10, hi8, -⟩ := (H.ro 0 rfl).ix hx7
    obtain ⟨v14, hc15, hR13⟩ := ((H.ro 0 rfl).at hx7 hi8).slice
    obtain ⟨a11, c12, rfl⟩ := hR13.isSl
    replace H := H.add (d := Ch.ro 0 (Sl a11 x6 c12) x6) hR13 (fun _ h => h)
    clear hR13
    revert h; refine br fun r16 hx17 h => ?_
    have hc18 := c_spec_halfDist (Ad := a11) (Ae := c12) (Af := Ga) (Ag := Gb) hx17
    revert h; refine br fun x19 hx20 h => ?_
    obtain ⟨b22, o23, hi21, -⟩ := (H.ro 1 rfl).ix hx20
    obtain ⟨v27, hc28, hR26⟩ := ((H.ro 1 rfl).at hx20 hi21).slice
    obtain ⟨a24, c25, rfl⟩ := hR26.isSl
    replace H := H.add (d := Ch.ro 0 (Sl a24 x19 c25) x19) hR26 (fun _ h => h)
    clear hR26
    have Hs := H
    refine rg2 (σ := σ3) (Nm := Unit) 11 [5] [[false], [true]] [[(0, 0)], [(0, 0)], [(0, 0)], [(0, 0)], [(0, 0)], [(0, 1)], [(0, 0), (1, 1)], [(0, 0), (1, 1)], [(0, 0), (1, 1)], [(0, 0), (1, 1)], [(0, 0), (1, 1)]] 1 [fun _ => fun σm => Hp S0 σ0 σm [Ch.ro 0 (Sl a24 x19 c25) x19, Ch.ro 0 (Sl a11 x6 c12) x6, Ch.ro 0 (Sl Aw Av Ax) Av, Ch.ro 0 (Sl Ga Fy Gb) Fy] ∧ Md (cov []) σ3 σm, fun _ => fun σm => Hp S0 σ0 σm [Ch.ro 0 (Sl a24 x19 c25) x19, Ch.ro 0 (Sl a11 x6 c12) x6, Ch.ro 0 (Sl Aw Av Ax) Av, Ch.ro 0 (Sl Ga Fy Gb) Fy] ∧ Md (cov []) σ3 σm] [fun _ => (Sl Aw Av Ax), fun _ => (I s2.2), fun _ => (pt b9 o10), fun _ => (Sl a11 x6 c12), fun _ => (Sl Ga Fy Gb), fun _ => (I r16), fun _ => (Sl Aw Av Ax), fun _ => (I s2.1), fun _ => (pt b22 o23), fun _ => (Sl a24 x19 c25), fun _ => (Sl Ga Fy Gb)] () (by kernel_rfl) (by kernel_rfl) ?_ ?_ ?_
    ·intro σm m0
     exact ⟨H.grow (m0.mono fun _ h => h.elim), m0⟩
    ·refine ac rfl (by
       intro k _nm ρ σm hJ hoff hdep
       have e0 := look_off (N := 28) (hoff 0 rfl) rfl
       exact dp_v (v := (Sl Aw Av Ax)) wn (rv_move e0) rfl hJ) ?_
     refine ac rfl (by
       intro k _nm ρ σm hJ hoff hdep
       have e6 := look_off (N := 28) (hoff 6 rfl) rfl
       exact dp_v (v := (I s2.2)) wn (rv_move e6) rfl hJ) ?_
     refine ac rfl (by
       intro k _nm ρ σm hJ hoff hdep
       have e13 := hdep 0 rfl rfl 13 rfl
       have e14 := hdep 1 rfl rfl 14 rfl
       exact dp_v (v := (pt b9 o10)) wn (rv_ix Tryz.underlying23 ti27 e13 e14 hi8) rfl hJ) ?_
     refine all_cons (by
       refine ⟨?_, ?_⟩
       ·intro _nm ρ σm hJ hoff hdep
        have e15 := hdep 2 rfl rfl 15 rfl
        obtain ⟨H, m⟩ := id hJ
        replace hc15 := (Hs.ro 2 rfl).hmd hx7 hi8 (k := 0) (by decide) hc15 m
        exact dp_v (v := (Sl a11 x6 c12)) wn (rv_load1 Tryz.underlying27 rfl e15 hc15) rfl hJ
       trivial) ?_
     refine ac rfl (by
       intro k _nm ρ σm hJ hoff hdep
       have e1 := look_off (N := 28) (hoff 1 rfl) rfl
       exact dp_v (v := (Sl Ga Fy Gb)) wn (rv_move e1) rfl hJ) ?_
     refine all_cons (by
       refine ⟨?_, ?_⟩
       ·intro _nm ρ σm hJ hoff hdep
        have e16 : look 28 ρ 16 = (Sl a11 x6 c12) := hdep 3 rfl rfl 16 rfl
        have e17 : look 28 ρ 17 = (Sl Ga Fy Gb) := hdep 4 rfl rfl 17 rfl
        obtain ⟨H, m⟩ := id hJ
        refine dp_cx wn (cx_call hc18 (ent_f hc18.fn (by show [look 28 ρ 16, look 28 ρ 17] = _; rw [e16, e17])) hn0 (H.sel' [1, 3, 0, 1, 2, 3] rfl rfl : Hp S0 σ0 _ ([_, _] ++ _))) ?_
        rintro _ σq ⟨_, ⟨rfl, rfl⟩, H2, m2⟩
        exact ⟨_, (), rfl, rfl, ⟨H2.sel' [0, 1, 2, 3] rfl rfl, m.comp0 (m2.mono (fun i h => by simp [cov, Ch.ro] at h))⟩, stab [0, 1, 2, 3, 4, 6, 7, 8, 9, 10] (by kernel_rfl) ⟨rfl, rfl, rfl, rfl, rfl, rfl, rfl, rfl, rfl, rfl, trivial⟩⟩
       trivial) ?_
     refine ac rfl (by
       intro k _nm ρ σm hJ hoff hdep
       have e0 := look_off (N := 28) (hoff 0 rfl) rfl
       exact dp_v (v := (Sl Aw Av Ax)) wn (rv_move e0) rfl hJ) ?_
     refine ac rfl (by
       intro k _nm ρ σm hJ hoff hdep
       have e5 := look_off (N := 28) (hoff 5 rfl) rfl
       exact dp_v (v := (I s2.1)) wn (rv_move e5) rfl hJ) ?_
     refine ac rfl (by
       intro k _nm ρ σm hJ hoff hdep
       have e19 := hdep 6 rfl rfl 19 rfl
       have e20 := hdep 7 rfl rfl 20 rfl
       exact dp_v (v := (pt b22 o23)) wn (rv_ix Tryz.underlying23 ti27 e19 e20 hi21) rfl hJ) ?_
     refine all_cons (by
       refine ⟨?_, ?_⟩
       ·intro _nm ρ σm hJ hoff hdep
        have e21 := hdep 8 rfl rfl 21 rfl
        obtain ⟨H, m⟩ := id hJ
        replace hc28 := (Hs.ro 2 rfl).hmd hx20 hi21 (k := 0) (by decide) hc28 m
        exact dp_v (v := (Sl a24 x19 c25)) wn (rv_load1 Tryz.underlying27 rfl e21 hc28) rfl hJ
       refine ⟨?_, ?_⟩
       ·intro _nm ρ σm hJ hoff hdep
        have e21 := hdep 8 rfl rfl 21 rfl
        obtain ⟨H, m⟩ := id hJ
        replace hc28 := (Hs.ro 2 rfl).hmd hx20 hi21 (k := 0) (by decide) hc28 m
        exact dp_v (v := (Sl a24 x19 c25)) wn (rv_load1 Tryz.underlying27 rfl e21 hc28) rfl hJ
       trivial) ?_
     refine ac rfl (by
       intro k _nm ρ σm hJ hoff hdep
       have e1 := look_off (N := 28) (hoff 1 rfl) rfl
       exact dp_v (v := (Sl Ga Fy Gb)) wn (rv_move e1) rfl hJ) ?_
     exact all_nil
    ·intro _nm ρ σ29 hJ hoff hrel
     have e0 := look_off (N := 28) (hoff 0 rfl) rfl
     have e1 := look_off (N := 28) (hoff 1 rfl) rfl
     have e5 := look_off (N := 28) (hoff 5 rfl) rfl
     have e6 := look_off (N := 28) (hoff 6 rfl) rfl
     have e18 := hrel 5 rfl 18 rfl
     have e22 := hrel 9 rfl 22 rfl
     have e23 := hrel 10 rfl 23 rfl
     obtain ⟨H, -⟩ := (show Hp S0 σ0 σ29 [Ch.ro 0 (Sl a24 x19 c25) x19, Ch.ro 0 (Sl a11 x6 c12) x6, Ch.ro 0 (Sl Aw Av Ax) Av, Ch.ro 0 (Sl Ga Fy Gb) Fy] ∧ Md (cov []) σ3 σ29 from hJ)
     clear hJ Hs
     rw [fr_lookL (L := [(0, (Sl Aw Av Ax)), (1, (Sl Ga Fy Gb)), (5, (I s2.1)), (6, (I s2.2)), (18, (I r16)), (22, (Sl a24 x19 c25)), (23, (Sl Ga Fy Gb))]) ⟨e0, e1, e5, e6, e18, e22, e23, trivial⟩]
     clear hoff hrel e0 e1 e5 e6 e18 e22 e23
     revert h; refine br fun r30 hx31 h => ?_
     have hc32 := c_spec_halfDist (Ad := a24) (Ae := c25) (Af := Ga) (Ag := Gb) hx31
     refine st_call (cx_call hc32 (ent_f hc32.fn rfl) hn0 (H.sel' [0, 3, 0, 1, 2, 3] rfl rfl : Hp S0 σ0 _ ([_, _] ++ _))) wn ?_
     rintro _ σ33 ⟨_, ⟨rfl, rfl⟩, H, -⟩
     replace H : Hp _ _ _ [_, _, _, _] := H
     refine st (v := (B (decide (r16 < r30)))) (rv_lss (a := r16) (b := r30) rfl rfl) (w_end (q_then ?_))
     refine cd_cond (decide (r16 < r30)) rfl (fun hb34 => ?_) (fun hb34 => ?_)
     ·replace h := bif_t hb34 h
      refine rg (sm (I s2.2) rfl (sa (I s2.2) rfl (w_end (q_blk ?_))))
      obtain rfl := sj h
      exact ⟨rfl, _, σ33, fr_join ⟨rfl, rfl, rfl, rfl, trivial⟩, rfl, H.sel' [2, 3] rfl rfl⟩
     ·replace h := bif_f hb34 h
      refine c_skip (q_blk ?_)
      obtain rfl := sj h
      exact ⟨rfl, _, σ33, fr_join ⟨rfl, rfl, rfl, rfl, trivial⟩, rfl, H.sel' [2, 3] rfl rfl⟩
   ·clear hj
    have h := h'
    clear h' H
    rintro e a w ⟨rfl, ρ, σ35, rfl, rfl, H⟩
    refine q_then (rg (sm (I s2.2) rfl (st (v := (I (w64 (s2.2 + 1)))) (rv_add (a := s2.2) (b := 1) rfl rfl) (sa (I (w64 (s2.2 + 1))) rfl (w_end (q_then ?_))))))
    obtain rfl := sj h
    exact ⟨_, rfl, _, σ35, fr_join ⟨rfl, rfl, rfl, rfl, trivial⟩, rfl, H.sel' [0, 1] rfl rfl⟩
  ·replace h := bif_f hb4 h
   refine c_exit (q_then_x (q_then_x (q_blk_hit ?_)))
   obtain rfl := sj h
   obtain rfl := hres _ rfl
   exact ⟨rfl, _, σ3, fr_join ⟨rfl, trivial⟩, rfl, H.sel' [] rfl rfl⟩
 ·clear hj
  have h := h'
  clear h' H
  rintro e a w ⟨rfl, ρ, σ36, rfl, rfl, H⟩
  refine q_then (c_seq (rg (sm (I o1) rfl (sa (I o1) rfl (w_end (q_then (c_ret ?_)))))))
  obtain rfl := sj h
  exact fin_ret (v := (I o1)) (results_ok Tryz.results125 (res_tmp (v := (I o1)) rfl res_nil) rfl) ⟨rfl, rfl⟩ (H.sel' [] rfl rfl)

theorem c_spec_encode {Ft : (List (List Int)) × (List (List Int))} {Gc : List Int} {Fu : Option Addr} {Fv : Nat} {Fw : Option Addr} {Fx : Nat} {Gd : Option Addr} {Ge : Nat} {r : Int} (h : M.spec_encode Ft Gc = some r) :
    Cal2 Tryz.prog 64 [(.agg #[(Sl Fu Ft.1 Fv), (Sl Fw Ft.2 Fx)]), (Sl Gd Gc Ge)] [Ch.ro 0 (Sl Fu Ft.1 Fv) Ft.1, Ch.ro 0 (Sl Fw Ft.2 Fx) Ft.2, Ch.ro 0 (Sl Gd Gc Ge) Gc] (fun n0 v L => v = (I r) ∧ L = []) := by
 refine cal2 (n := 17) Tryz.func64 rfl rfl rfl rfl ?_
 intro S0 σ0 n0 hn0 H
 unfold M.spec_encode at h
 refine c_seq (rg (st_ex (ex_box (cs := [(Sl Fu Ft.1 Fv), (Sl Fw Ft.2 Fx)]) H hn0 rfl rfl) wn ?_))
 rintro _ σ2 ⟨b1, rfl, H, -⟩
 refine sa (I 0) rfl (w_end (q_then (c_seq ?_)))
 have hc3 := H.cell (u := (Sl Fu Ft.1 Fv)) (o' := 0) 0 0 rfl rfl rfl
 revert h; refine br fun xs4 hx5 h => ?_
 obtain ⟨a6, c7, hs8, hR9⟩ := (H.ro 3 rfl).slice hx5
 replace H := H.add (d := Ch.ro 0 (Sl a6 xs4 c7) xs4) hR9 (fun _ h => h)
 clear hR9
 revert h; refine br fun r10 hx11 h => ?_
 have hc12 := c_spec_closest (Aw := Fu) (Ax := Fv) (Ga := a6) (Gb := c7) hx11
 have hc13 := H.cell (u := (Sl Fw Ft.2 Fx)) (o' := 1) 1 1 rfl rfl rfl
 revert h; refine br fun xs14 hx15 h => ?_
 obtain ⟨a16, c17, hs18, hR19⟩ := (H.ro 4 rfl).slice hx15
 replace H := H.add (d := Ch.ro 0 (Sl a16 xs14 c17) xs14) hR19 (fun _ h => h)
 clear hR19
 revert h; refine br fun r20 hx21 h => ?_
 have hc22 := c_spec_closest (Aw := Fw) (Ax := Fx) (Ga := a16) (Gb := c17) hx21
 have Hs := H
 refine rg2 (σ := σ2) (Nm := Unit) 11 [4, 10] [[false, false], [true, false], [true, true]] [[(0, 0)], [(0, 0)], [(0, 0)], [(0, 0)], [(0, 1)], [(1, 1), (2, 2)], [(0, 0), (1, 1)], [(0, 0), (1, 1)], [(0, 0), (1, 1)], [(0, 0), (1, 1)], [(1, 2)]] 2 [fun _ => fun σm => Hp S0 σ0 σm [Ch.ro 0 (Sl a16 xs14 c17) xs14, Ch.ro 0 (Sl a6 xs4 c7) xs4, Ch.bx n0 b1 0 [(Sl Fu Ft.1 Fv), (Sl Fw Ft.2 Fx)] [] [], Ch.ro 0 (Sl Fu Ft.1 Fv) Ft.1, Ch.ro 0 (Sl Fw Ft.2 Fx) Ft.2, Ch.ro 0 (Sl Gd Gc Ge) Gc] ∧ Md (cov []) σ2 σm, fun _ => fun σm => Hp S0 σ0 σm [Ch.ro 0 (Sl a16 xs14 c17) xs14, Ch.ro 0 (Sl a6 xs4 c7) xs4, Ch.bx n0 b1 0 [(Sl Fu Ft.1 Fv), (Sl Fw Ft.2 Fx)] [] [], Ch.ro 0 (Sl Fu Ft.1 Fv) Ft.1, Ch.ro 0 (Sl Fw Ft.2 Fx) Ft.2, Ch.ro 0 (Sl Gd Gc Ge) Gc] ∧ Md (cov []) σ2 σm, fun _ => fun σm => Hp S0 σ0 σm [Ch.ro 0 (Sl a16 xs14 c17) xs14, Ch.ro 0 (Sl a6 xs4 c7) xs4, Ch.bx n0 b1 0 [(Sl Fu Ft.1 Fv), (Sl Fw Ft.2 Fx)] [] [], Ch.ro 0 (Sl Fu Ft.1 Fv) Ft.1, Ch.ro 0 (Sl Fw Ft.2 Fx) Ft.2, Ch.ro 0 (Sl Gd Gc Ge) Gc] ∧ Md (cov []) σ2 σm] [fun _ => (pt b1 0), fun _ => (Sl Fu Ft.1 Fv), fun _ => (Sl Gd Gc Ge), fun _ => (Sl a6 xs4 c7), fun _ => (I r10), fun _ => (I (w64 (r10 * 4))), fun _ => (pt b1 1), fun _ => (Sl Fw Ft.2 Fx), fun _ => (Sl Gd Gc Ge), fun _ => (Sl a16 xs14 c17), fun _ => (I r20)] () (by kernel_rfl) (by kernel_rfl) ?_ ?_ ?_
 ·intro σm m0
  exact ⟨H.grow (m0.mono fun _ h => h.elim), m0⟩
 ·refine ac rfl (by
    intro k _nm ρ σm hJ hoff hdep
    have e2 := look_off (N := 17) (hoff 2 rfl) rfl
    exact dp_v (v := (pt b1 0)) wn (rv_fieldAddr (off := 0) (ft := 23) Tryz.underlying25 rfl ti23 rfl e2) rfl hJ) ?_
  refine all_cons (by
    refine ⟨?_, ?_⟩
    ·intro _nm ρ σm hJ hoff hdep
     have e5 := hdep 0 rfl rfl 5 rfl
     obtain ⟨H, m⟩ := id hJ
     have hc3 := H.cell (u := (Sl Fu Ft.1 Fv)) (o' := 0) 2 0 rfl rfl rfl
     exact dp_v (v := (Sl Fu Ft.1 Fv)) wn (rv_load1 Tryz.underlying23 rfl e5 hc3) rfl hJ
    trivial) ?_
  refine ac rfl (by
    intro k _nm ρ σm hJ hoff hdep
    have e1 := look_off (N := 17) (hoff 1 rfl) rfl
    exact dp_v (v := (Sl Gd Gc Ge)) wn (rv_move e1) rfl hJ) ?_
  refine ac rfl (by
    intro k _nm ρ σm hJ hoff hdep
    have e7 := hdep 2 rfl rfl 7 rfl
    exact dp_v (v := (Sl a6 xs4 c7)) wn (rv_slice_h Tryz.underlying27 ti3 hs8 e7 rfl) rfl hJ) ?_
  refine all_cons (by
    refine ⟨?_, ?_⟩
    ·intro _nm ρ σm hJ hoff hdep
     have e6 : look 17 ρ 6 = (Sl Fu Ft.1 Fv) := hdep 1 rfl rfl 6 rfl
     have e8 : look 17 ρ 8 = (Sl a6 xs4 c7) := hdep 3 rfl rfl 8 rfl
     obtain ⟨H, m⟩ := id hJ
     refine dp_cx wn (cx_call hc12 (ent_f hc12.fn (by show [look 17 ρ 6, look 17 ρ 8] = _; rw [e6, e8])) hn0 (H.sel' [3, 1, 0, 1, 2, 3, 4, 5] rfl rfl : Hp S0 σ0 _ ([_, _] ++ _))) ?_
     rintro _ σq ⟨_, ⟨rfl, rfl⟩, H2, m2⟩
     exact ⟨_, (), rfl, rfl, ⟨H2.sel' [0, 1, 2, 3, 4, 5] rfl rfl, m.comp0 (m2.mono (fun i h => by simp [cov, Ch.ro] at h))⟩, stab [0, 1, 2, 3, 6, 7, 8, 9] (by kernel_rfl) ⟨rfl, rfl, rfl, rfl, rfl, rfl, rfl, rfl, trivial⟩⟩
    trivial) ?_
  refine ac rfl (by
    intro k _nm ρ σm hJ hoff hdep
    have e9 := hdep 4 rfl rfl 9 rfl
    exact dp_v (v := (I (w64 (r10 * 4)))) wn (rv_mul (a := r10) (b := 4) e9 rfl) rfl hJ) ?_
  refine ac rfl (by
    intro k _nm ρ σm hJ hoff hdep
    have e2 := look_off (N := 17) (hoff 2 rfl) rfl
    exact dp_v (v := (pt b1 1)) wn (rv_fieldAddr (off := 1) (ft := 23) Tryz.underlying25 rfl ti23 rfl e2) rfl hJ) ?_
  refine all_cons (by
    refine ⟨?_, ?_⟩
    ·intro _nm ρ σm hJ hoff hdep
     have e11 := hdep 6 rfl rfl 11 rfl
     obtain ⟨H, m⟩ := id hJ
     have hc13 := H.cell (u := (Sl Fw Ft.2 Fx)) (o' := 1) 2 1 rfl rfl rfl
     exact dp_v (v := (Sl Fw Ft.2 Fx)) wn (rv_load1 Tryz.underlying23 rfl e11 hc13) rfl hJ
    refine ⟨?_, ?_⟩
    ·intro _nm ρ σm hJ hoff hdep
     have e11 := hdep 6 rfl rfl 11 rfl
     obtain ⟨H, m⟩ := id hJ
     have hc13 := H.cell (u := (Sl Fw Ft.2 Fx)) (o' := 1) 2 1 rfl rfl rfl
     exact dp_v (v := (Sl Fw Ft.2 Fx)) wn (rv_load1 Tryz.underlying23 rfl e11 hc13) rfl hJ
    trivial) ?_
  refine ac rfl (by
    intro k _nm ρ σm hJ hoff hdep
    have e1 := look_off (N := 17) (hoff 1 rfl) rfl
    exact dp_v (v := (Sl Gd Gc Ge)) wn (rv_move e1) rfl hJ) ?_
  refine ac rfl (by
    intro k _nm ρ σm hJ hoff hdep
    have e13 := hdep 8 rfl rfl 13 rfl
    exact dp_v (v := (Sl a16 xs14 c17)) wn (rv_slice_l Tryz.underlying27 ti3 hs18 e13 rfl) rfl hJ) ?_
  refine all_cons (by
    refine ⟨?_, ?_⟩
    ·intro _nm ρ σm hJ hoff hdep
     have e12 : look 17 ρ 12 = (Sl Fw Ft.2 Fx) := hdep 7 rfl rfl 12 rfl
     have e14 : look 17 ρ 14 = (Sl a16 xs14 c17) := hdep 9 rfl rfl 14 rfl
     obtain ⟨H, m⟩ := id hJ
     refine dp_cx wn (cx_call hc22 (ent_f hc22.fn (by show [look 17 ρ 12, look 17 ρ 14] = _; rw [e12, e14])) hn0 (H.sel' [4, 0, 0, 1, 2, 3, 4, 5] rfl rfl : Hp S0 σ0 _ ([_, _] ++ _))) ?_
     rintro _ σq ⟨_, ⟨rfl, rfl⟩, H2, m2⟩
     exact ⟨_, (), rfl, rfl, ⟨H2.sel' [0, 1, 2, 3, 4, 5] rfl rfl, m.comp0 (m2.mono (fun i h => by simp [cov, Ch.ro] at h))⟩, stab [0, 1, 2, 3, 4, 5, 6, 7, 8, 9] (by kernel_rfl) ⟨rfl, rfl, rfl, rfl, rfl, rfl, rfl, rfl, rfl, rfl, trivial⟩⟩
    trivial) ?_
  exact all_nil
 ·intro _nm ρ σ23 hJ hoff hrel
  have e10 := hrel 5 rfl 10 rfl
  have e15 := hrel 10 rfl 15 rfl
  obtain ⟨H, -⟩ := (show Hp S0 σ0 σ23 [Ch.ro 0 (Sl a16 xs14 c17) xs14, Ch.ro 0 (Sl a6 xs4 c7) xs4, Ch.bx n0 b1 0 [(Sl Fu Ft.1 Fv), (Sl Fw Ft.2 Fx)] [] [], Ch.ro 0 (Sl Fu Ft.1 Fv) Ft.1, Ch.ro 0 (Sl Fw Ft.2 Fx) Ft.2, Ch.ro 0 (Sl Gd Gc Ge) Gc] ∧ Md (cov []) σ2 σ23 from hJ)
  clear hJ Hs
  rw [fr_lookL (L := [(10, (I (w64 (r10 * 4)))), (15, (I r20))]) ⟨e10, e15, trivial⟩]
  clear hoff hrel e10 e15
  refine st (v := (I (w64 ((w64 (r10 * 4)) + r20)))) (rv_add (a := (w64 (r10 * 4))) (b := r20) rfl rfl) (sa (I (w64 ((w64 (r10 * 4)) + r20))) rfl (w_end (q_then (c_ret ?_))))
  obtain rfl := sj h
  exact fin_ret (v := (I (w64 ((w64 (r10 * 4)) + r20)))) (results_ok Tryz.results64 (res_tmp (v := (I (w64 ((w64 (r10 * 4)) + r20)))) rfl res_nil) rfl) ⟨rfl, rfl⟩ (H.sel' [] rfl rfl)

theorem c_spec_CodeNearest {Ft : (List (List Int)) × (List (List Int))} {Fj : List (Int × (List Int) × Int)} {Bb : List Int} {Bc : Int} {Fu : Option Addr} {Fv : Nat} {Fw : Option Addr} {Fx : Nat} {Fk : Option Addr} {Fl : Nat} {Bd : Option Addr} {Be : Nat} {r : (List (Int × Int))} (h : M.spec_CodeNearest Ft Fj Bb Bc = some r) :
    Cal2 Tryz.prog 16 [(.agg #[(Sl Fu Ft.1 Fv), (Sl Fw Ft.2 Fx)]), (Sl Fk Fj Fl), (Sl Bd Bb Be), (I Bc)] [Ch.ro 0 (Sl Fu Ft.1 Fv) Ft.1, Ch.ro 0 (Sl Fw Ft.2 Fx) Ft.2, Ch.ro 0 (Sl Fk Fj Fl) Fj, Ch.ro 0 (Sl Bd Bb Be) Bb] (fun n0 v L => ∃ (az1 : Option Addr), ∃ (cz2 : Nat), v = (Sl az1 r cz2) ∧ L = [Ch.own n0 n0 (Sl az1 r cz2) r]) := by
 refine cal2 (n := 53) Tryz.func16 rfl rfl rfl rfl ?_
 intro S0 σ0 n0 hn0 H
 unfold M.spec_CodeNearest at h
 refine c_seq (rg (st_ex (ex_box (cs := [(Sl Fu Ft.1 Fv), (Sl Fw Ft.2 Fx)]) H hn0 rfl rfl) wn ?_))
 rintro _ σ2 ⟨b1, rfl, H, -⟩
 refine sa (.slice none 0 0) rfl (w_end (q_then (c_seq (rg ?_))))
 refine st_ex (ex_buildSlice (el := n0) (xs := ([] : List (Int × Int))) (ps := []) (cs := []) H hn0 Tryz.underlying30 ti43 rfl rfl (by kernel_rfl) (.nil) rfl) wn ?_
 rintro _ σ4 ⟨b3, rfl, H, -⟩
 refine sa (Sl (some ⟨b3, 0, none⟩) ([] : List (Int × Int)) 0) rfl (w_end (q_then (c_seq (c_seq ?_))))
 obtain ⟨o5, hj, h'⟩ := bind_some h
 clear h
 refine c_cut (fun e a w => e = .normal ∧ ∃ (ρ : Nat → Value) (σ : St), a = fr 53 (updL ρ [(1, (Sl Fk Fj Fl)), (2, (Sl Bd Bb Be)), (3, (I Bc)), (4, (pt b1 0)), (9, (Sl (some ⟨b3, 0, none⟩) ([] : List (Int × Int)) 0)), (25, (B o5))]) ∧ w = σ.w ∧ Hp S0 σ0 σ [Ch.ro 0 (Sl Fk Fj Fl) Fj, Ch.ro 0 (Sl Bd Bb Be) Bb, Ch.ro 0 (Sl Fu Ft.1 Fv) Ft.1, Ch.ro 0 (Sl Fw Ft.2 Fx) Ft.2, Ch.bx n0 b1 0 [(Sl Fu Ft.1 Fv), (Sl Fw Ft.2 Fx)] [] [], Ch.own n0 n0 (Sl (some ⟨b3, 0, none⟩) ([] : List (Int × Int)) 0) ([] : List (Int × Int))]) ?_ ?_
 ·clear h'
  rename _ = some o5 => h
  refine rg ?_
  have hc6 := H.cells 1 rfl
  refine st (v := (.agg #[(Sl Fu Ft.1 Fv), (Sl Fw Ft.2 Fx)])) (rv_load (cs := [(Sl Fu Ft.1 Fv), (Sl Fw Ft.2 Fx)]) Tryz.underlying25 rfl ti25 rfl rfl hc6) ?_
  revert h; refine br fun r7 hx8 h => ?_
  have hc9 := c_spec_validBook (Fu := Fu) (Fv := Fv) (Fw := Fw) (Fx := Fx) hx8
  refine st_call (cx_call hc9 (ent_f hc9.fn rfl) hn0 (H.sel' [2, 3, 0, 1, 2, 3, 4, 5] rfl rfl : Hp S0 σ0 _ ([_, _] ++ _))) wn ?_
  rintro _ σ10 ⟨_, ⟨rfl, rfl⟩, H, -⟩
  replace H : Hp _ _ _ [_, _, _, _, _, _] := H
  refine st (v := (B (!r7))) (rv_not rfl) (sm (B (!r7)) rfl ?_)
  rcases Bool.eq_false_or_eq_true (!r7) with hb11 | hb11
  ·replace h := bif_t hb11 h
   refine st_skip (congrArg some hb11) (st_skip (congrArg some hb11) (st_skip (congrArg some hb11) (st_skip (congrArg some hb11) (st (v := (B true)) (rv_pick_t (congrArg B hb11) rfl) (sm (B true) rfl (st_skip rfl (st_skip rfl (st_skip rfl (st (v := (B true)) (rv_pick_t rfl rfl) (w_end ?_))))))))))
   obtain rfl := sj h
   exact ⟨rfl, _, σ10, fr_join ⟨rfl, rfl, rfl, rfl, rfl, rfl, trivial⟩, rfl, H.sel' [4, 5, 2, 3, 1, 0] rfl rfl⟩
  ·replace h := bif_f hb11 h
   refine st_g (v := (Sl Fk Fj Fl)) (congrArg some hb11) (rv_move rfl) (st_g (v := (Sl Bd Bb Be)) (congrArg some hb11) (rv_move rfl) ?_)
   revert h; refine br fun r12 hx13 h => ?_
   have hc14 := c_spec_validQuery (Aw := Fk) (Ax := Fl) (Bd := Bd) (Be := Be) hx13
   refine st_call (cx_call hc14 (ent_f hc14.fn rfl) hn0 (H.sel' [4, 5, 0, 1, 2, 3, 4, 5] rfl rfl : Hp S0 σ0 _ ([_, _] ++ _))) (wanted_yes rfl (by exact (congrArg some hb11))) ?_
   rintro _ σ15 ⟨_, ⟨rfl, rfl⟩, H, -⟩
   replace H : Hp _ _ _ [_, _, _, _, _, _] := H
   refine st_g (v := (B (!r12))) (congrArg some hb11) (rv_not rfl) (st (v := (B (!r12))) (rv_pick_f (congrArg B hb11) rfl) (sm (B (!r12)) rfl ?_))
   rcases Bool.eq_false_or_eq_true (!r12) with hb16 | hb16
   ·replace h := bif_t hb16 h
    refine st_skip (congrArg some hb16) (st_skip (congrArg some hb16) (st_skip (congrArg some hb16) (st (v := (B true)) (rv_pick_t (congrArg B hb16) rfl) (w_end ?_))))
    obtain rfl := sj h
    exact ⟨rfl, _, σ15, fr_join ⟨rfl, rfl, rfl, rfl, rfl, rfl, trivial⟩, rfl, H.sel' [4, 5, 2, 3, 1, 0] rfl rfl⟩
   ·replace h := bif_f hb16 h
    refine st_g (v := (I Bc)) (congrArg some hb16) (rv_move rfl) ?_
    revert h; refine br fun r17 hx18 h => ?_
    have hc19 := c_spec_inRange hx18
    refine st_call (cx_call hc19 (ent_f hc19.fn rfl) hn0 (H.sel' [0, 1, 2, 3, 4, 5] rfl rfl : Hp S0 σ0 _ ([] ++ _))) (wanted_yes rfl (by exact (congrArg some hb16))) ?_
    rintro _ σ20 ⟨_, ⟨rfl, rfl⟩, H, -⟩
    replace H : Hp _ _ _ [_, _, _, _, _, _] := H
    refine st_g (v := (B (!r17))) (congrArg some hb16) (rv_not rfl) (st (v := (B (!r17))) (rv_pick_f (congrArg B hb16) rfl) (w_end ?_))
    obtain rfl := sj h
    exact ⟨rfl, _, σ20, fr_join ⟨rfl, rfl, rfl, rfl, rfl, rfl, trivial⟩, rfl, H.sel' [4, 5, 2, 3, 1, 0] rfl rfl⟩
 ·clear hj
  have h := h'
  clear h' H
  rintro e a w ⟨rfl, ρ, σ21, rfl, rfl, H⟩
  refine q_then ?_
  refine cd_cond o5 rfl (fun hb22 => ?_) (fun hb22 => ?_)
  ·replace h := bif_t hb22 h
   refine c_seq (rg (sa (.slice none 0 0) rfl (w_end (q_then (c_ret (q_then_r ?_))))))
   replace H := H.nilOwn (Int × Int) n0 n0
   obtain rfl := sj h
   exact fin_ret (v := (.slice none 0 0)) (results_ok Tryz.results16 (res_tmp (v := (.slice none 0 0)) rfl res_nil) rfl) ⟨none, 0, rfl, rfl⟩ (H.sel' [0] rfl rfl)
  ·replace h := bif_f hb22 h
   refine c_skip (q_then (c_seq (c_seq (rg (sa (I 0) rfl (w_end (q_then ?_)))))))
   obtain ⟨o23, hj, h'⟩ := bind_some h
   clear h
   refine c_cut (fun e a w => e = .normal ∧ ∃ (ρ : Nat → Value) (σ : St) (aj1 : Option Addr) (cj2 : Nat), a = fr 53 (updL ρ [(9, (Sl aj1 o23 cj2))]) ∧ w = σ.w ∧ Hp S0 σ0 σ [Ch.own n0 n0 (Sl aj1 o23 cj2) o23]) ?_ ?_
   ·clear h'
    rename _ = some o23 => h
    refine c_blk (wp_loopM _ h (fun s24 a w => ∃ (ρ : Nat → Value) (σ : St) (aj1 : Option Addr) (cj2 : Nat), a = fr 53 (updL ρ [(1, (Sl Fk Fj Fl)), (2, (Sl Bd Bb Be)), (3, (I Bc)), (4, (pt b1 0)), (9, (Sl aj1 s24.1 cj2)), (10, (I s24.2))]) ∧ w = σ.w ∧ Hp S0 σ0 σ [Ch.ro 0 (Sl Fk Fj Fl) Fj, Ch.ro 0 (Sl Bd Bb Be) Bb, Ch.ro 0 (Sl Fu Ft.1 Fv) Ft.1, Ch.ro 0 (Sl Fw Ft.2 Fx) Ft.2, Ch.bx n0 b1 0 [(Sl Fu Ft.1 Fv), (Sl Fw Ft.2 Fx)] [] [], Ch.own n0 n0 (Sl aj1 s24.1 cj2) s24.1]) ⟨_, σ21, (some ⟨b3, 0, none⟩), 0, fr_join ⟨rfl, rfl, rfl, rfl, rfl, rfl, trivial⟩, rfl, H.sel' [0, 1, 2, 3, 4, 5] rfl rfl⟩ ?_)
    clear h H
    rintro s24 a w o ⟨ρ, σ25, a26, c27, rfl, rfl, H⟩ h hres
    refine c_seq (c_seq (rg (sm (I s24.2) rfl (sm (Sl Fk Fj Fl) rfl (st (v := (I (Fj.length : Int))) (rv_len Tryz.underlying26 rfl) (st (v := (B (decide (s24.2 < (Fj.length : Int))))) (rv_lss (a := s24.2) (b := (Fj.length : Int)) rfl rfl) (w_end (q_then ?_))))))))
    refine cd_cond (decide (s24.2 < (Fj.length : Int))) rfl (fun hb28 => ?_) (fun hb28 => ?_)
    ·replace h := bif_t hb28 h
     refine c_skip (q_then (c_seq (c_blk ?_)))
     revert h; refine br fun x29 hx30 h => ?_
     obtain ⟨b32, o33, hi31, -⟩ := (H.ro 0 rfl).ix hx30
     have hc34 := ((H.ro 0 rfl).at hx30 hi31).fst.int
     have hc35 := H.cells 4 rfl
     have hc36 := H.cells 4 rfl
     revert h; refine br fun x37 hx38 h => ?_
     obtain ⟨b40, o41, hi39, -⟩ := (H.ro 0 rfl).ix hx38
     obtain ⟨v45, hc46, hR44⟩ := ((H.ro 0 rfl).at hx38 hi39).snd.fst.slice
     obtain ⟨a42, c43, rfl⟩ := hR44.isSl
     replace H := H.add (d := Ch.ro 0 (Sl a42 x37.2.1 c43) x37.2.1) hR44 (fun _ h => h)
     clear hR44
     revert h; refine br fun r47 hx48 h => ?_
     have hc49 := c_spec_encode (Fu := Fu) (Fv := Fv) (Fw := Fw) (Fx := Fx) (Gd := a42) (Ge := c43) hx48
     revert h; refine br fun r50 hx51 h => ?_
     have hc52 := c_spec_decode (Fu := Fu) (Fv := Fv) (Fw := Fw) (Fx := Fx) hx51
     revert h; refine br fun r55 hx56 h => ?_
     have hc57 := fun (a53 : Option Addr) (c54 : Nat) => c_spec_dist (Du := a53) (Dv := c54) (Dw := Bd) (Dx := Be) hx56
     have Hs := H
     refine rg2 (σ := σ25) (Nm := (Option Addr) × (Nat)) 19 [13, 14, 16] [[false, false, false], [true, false, false], [true, true, false], [true, true, true]] [[(0, 0), (1, 1), (2, 2), (3, 3)], [(0, 0), (1, 1), (2, 2), (3, 3)], [(0, 0), (1, 1), (2, 2), (3, 3)], [(0, 0), (1, 1), (2, 2), (3, 3)], [(0, 0), (1, 1), (2, 2), (3, 3)], [(0, 0), (1, 1), (2, 2), (3, 3)], [(0, 0), (1, 1)], [(0, 0)], [(0, 0)], [(0, 0)], [(0, 0)], [(0, 0)], [(0, 0)], [(0, 1)], [(1, 2)], [(0, 0), (1, 1), (2, 2)], [(2, 3)], [(3, 3)], [(0, 0), (1, 1), (2, 2), (3, 3)]] 3 [fun ((a53, c54) : (Option Addr) × (Nat)) => fun σm => Hp S0 σ0 σm [Ch.ro 0 (Sl a42 x37.2.1 c43) x37.2.1, Ch.ro 0 (Sl Fk Fj Fl) Fj, Ch.ro 0 (Sl Bd Bb Be) Bb, Ch.ro 0 (Sl Fu Ft.1 Fv) Ft.1, Ch.ro 0 (Sl Fw Ft.2 Fx) Ft.2, Ch.bx n0 b1 0 [(Sl Fu Ft.1 Fv), (Sl Fw Ft.2 Fx)] [] [], Ch.own n0 n0 (Sl a26 s24.1 c27) s24.1] ∧ Md (cov []) σ25 σm, fun ((a53, c54) : (Option Addr) × (Nat)) => fun σm => Hp S0 σ0 σm [Ch.ro 0 (Sl a42 x37.2.1 c43) x37.2.1, Ch.ro 0 (Sl Fk Fj Fl) Fj, Ch.ro 0 (Sl Bd Bb Be) Bb, Ch.ro 0 (Sl Fu Ft.1 Fv) Ft.1, Ch.ro 0 (Sl Fw Ft.2 Fx) Ft.2, Ch.bx n0 b1 0 [(Sl Fu Ft.1 Fv), (Sl Fw Ft.2 Fx)] [] [], Ch.own n0 n0 (Sl a26 s24.1 c27) s24.1] ∧ Md (cov []) σ25 σm, fun ((a53, c54) : (Option Addr) × (Nat)) => fun σm => Hp S0 σ0 σm [Ch.ro 0 (Sl a53 r50 c54) r50, Ch.ro 0 (Sl a42 x37.2.1 c43) x37.2.1, Ch.ro 0 (Sl Fk Fj Fl) Fj, Ch.ro 0 (Sl Bd Bb Be) Bb, Ch.ro 0 (Sl Fu Ft.1 Fv) Ft.1, Ch.ro 0 (Sl Fw Ft.2 Fx) Ft.2, Ch.bx n0 b1 0 [(Sl Fu Ft.1 Fv), (Sl Fw Ft.2 Fx)] [] [], Ch.own n0 n0 (Sl a26 s24.1 c27) s24.1] ∧ Md (fun i => (cov []) i ∨ (fun i => (cov [Ch.ro 0 (Sl Fu Ft.1 Fv) Ft.1, Ch.ro 0 (Sl Fw Ft.2 Fx) Ft.2]) i ∨ (fun b => blk (Sl a53 r50 c54) = some b) i) i) σ25 σm, fun ((a53, c54) : (Option Addr) × (Nat)) => fun σm => Hp S0 σ0 σm [Ch.ro 0 (Sl a53 r50 c54) r50, Ch.ro 0 (Sl a42 x37.2.1 c43) x37.2.1, Ch.ro 0 (Sl Fk Fj Fl) Fj, Ch.ro 0 (Sl Bd Bb Be) Bb, Ch.ro 0 (Sl Fu Ft.1 Fv) Ft.1, Ch.ro 0 (Sl Fw Ft.2 Fx) Ft.2, Ch.bx n0 b1 0 [(Sl Fu Ft.1 Fv), (Sl Fw Ft.2 Fx)] [] [], Ch.own n0 n0 (Sl a26 s24.1 c27) s24.1] ∧ Md (fun i => (cov []) i ∨ (fun i => (cov [Ch.ro 0 (Sl Fu Ft.1 Fv) Ft.1, Ch.ro 0 (Sl Fw Ft.2 Fx) Ft.2]) i ∨ (fun b => blk (Sl a53 r50 c54) = some b) i) i) σ25 σm] [fun ((a53, c54) : (Option Addr) × (Nat)) => (Sl a26 s24.1 c27), fun ((a53, c54) : (Option Addr) × (Nat)) => (Sl Fk Fj Fl), fun ((a53, c54) : (Option Addr) × (Nat)) => (I s24.2), fun ((a53, c54) : (Option Addr) × (Nat)) => (pt b32 o33), fun ((a53, c54) : (Option Addr) × (Nat)) => (pt b32 (o33 + 0)), fun ((a53, c54) : (Option Addr) × (Nat)) => (I x29.1), fun ((a53, c54) : (Option Addr) × (Nat)) => (.agg #[(Sl Fu Ft.1 Fv), (Sl Fw Ft.2 Fx)]), fun ((a53, c54) : (Option Addr) × (Nat)) => (.agg #[(Sl Fu Ft.1 Fv), (Sl Fw Ft.2 Fx)]), fun ((a53, c54) : (Option Addr) × (Nat)) => (Sl Fk Fj Fl), fun ((a53, c54) : (Option Addr) × (Nat)) => (I s24.2), fun ((a53, c54) : (Option Addr) × (Nat)) => (pt b40 o41), fun ((a53, c54) : (Option Addr) × (Nat)) => (pt b40 (o41 + 1)), fun ((a53, c54) : (Option Addr) × (Nat)) => (Sl a42 x37.2.1 c43), fun ((a53, c54) : (Option Addr) × (Nat)) => (I r47), fun ((a53, c54) : (Option Addr) × (Nat)) => (Sl a53 r50 c54), fun ((a53, c54) : (Option Addr) × (Nat)) => (Sl Bd Bb Be), fun ((a53, c54) : (Option Addr) × (Nat)) => (I r55), fun ((a53, c54) : (Option Addr) × (Nat)) => (.agg #[(I x29.1), (I r55)]), fun ((a53, c54) : (Option Addr) × (Nat)) => (I Bc)] (none, 0) (by kernel_rfl) (by kernel_rfl) ?_ ?_ ?_
     ·intro σm m0
      exact ⟨H.grow (m0.mono fun _ h => h.elim), m0⟩
     ·refine ac rfl (by
        intro k; rintro ⟨a53, c54⟩ ρ σm hJ hoff hdep
        have e9 := look_off (N := 53) (hoff 9 rfl) rfl
        exact dp_v (v := (Sl a26 s24.1 c27)) wn (rv_move e9) rfl hJ) ?_
      refine ac rfl (by
        intro k; rintro ⟨a53, c54⟩ ρ σm hJ hoff hdep
        have e1 := look_off (N := 53) (hoff 1 rfl) rfl
        exact dp_v (v := (Sl Fk Fj Fl)) wn (rv_move e1) rfl hJ) ?_
      refine ac rfl (by
        intro k; rintro ⟨a53, c54⟩ ρ σm hJ hoff hdep
        have e10 := look_off (N := 53) (hoff 10 rfl) rfl
        exact dp_v (v := (I s24.2)) wn (rv_move e10) rfl hJ) ?_
      refine ac rfl (by
        intro k; rintro ⟨a53, c54⟩ ρ σm hJ hoff hdep
        have e33 := hdep 1 rfl rfl 33 rfl
        have e34 := hdep 2 rfl rfl 34 rfl
        exact dp_v (v := (pt b32 o33)) wn (rv_ix Tryz.underlying26 ti34 e33 e34 hi31) rfl hJ) ?_
      refine ac rfl (by
        intro k; rintro ⟨a53, c54⟩ ρ σm hJ hoff hdep
        have e35 := hdep 3 rfl rfl 35 rfl
        exact dp_v (v := (pt b32 (o33 + 0))) wn (rv_fieldAddr (off := 0) (ft := 3) Tryz.underlying34 rfl ti3 rfl e35) rfl hJ) ?_
      refine all_cons (by
        refine ⟨?_, ?_⟩
        ·rintro ⟨a53, c54⟩ ρ σm hJ hoff hdep
         have e36 := hdep 4 rfl rfl 36 rfl
         obtain ⟨H, m⟩ := id hJ
         replace hc34 := (Hs.ro 1 rfl).hmd hx30 hi31 (k := 0) (by decide) hc34 m
         exact dp_v (v := (I x29.1)) wn (rv_load1 Tryz.underlying3 rfl e36 hc34) rfl hJ
        refine ⟨?_, ?_⟩
        ·rintro ⟨a53, c54⟩ ρ σm hJ hoff hdep
         have e36 := hdep 4 rfl rfl 36 rfl
         obtain ⟨H, m⟩ := id hJ
         replace hc34 := (Hs.ro 1 rfl).hmd hx30 hi31 (k := 0) (by decide) hc34 m
         exact dp_v (v := (I x29.1)) wn (rv_load1 Tryz.underlying3 rfl e36 hc34) rfl hJ
        refine ⟨?_, ?_⟩
        ·rintro ⟨a53, c54⟩ ρ σm hJ hoff hdep
         have e36 := hdep 4 rfl rfl 36 rfl
         obtain ⟨H, m⟩ := id hJ
         replace hc34 := (Hs.ro 1 rfl).hmd hx30 hi31 (k := 0) (by decide) hc34 m
         exact dp_v (v := (I x29.1)) wn (rv_load1 Tryz.underlying3 rfl e36 hc34) rfl hJ
        refine ⟨?_, ?_⟩
        ·rintro ⟨a53, c54⟩ ρ σm hJ hoff hdep
         have e36 := hdep 4 rfl rfl 36 rfl
         obtain ⟨H, m⟩ := id hJ
         replace hc34 := (Hs.ro 1 rfl).hmd hx30 hi31 (k := 0) (by decide) hc34 m
         exact dp_v (v := (I x29.1)) wn (rv_load1 Tryz.underlying3 rfl e36 hc34) rfl hJ
        trivial) ?_
      refine all_cons (by
        refine ⟨?_, ?_⟩
        ·rintro ⟨a53, c54⟩ ρ σm hJ hoff hdep
         have e4 := look_off (N := 53) (hoff 4 rfl) rfl
         obtain ⟨H, m⟩ := id hJ
         have hc35 := H.cells 5 rfl
         exact dp_v (v := (.agg #[(Sl Fu Ft.1 Fv), (Sl Fw Ft.2 Fx)])) wn (rv_load (cs := [(Sl Fu Ft.1 Fv), (Sl Fw Ft.2 Fx)]) Tryz.underlying25 rfl ti25 e4 rfl hc35) rfl hJ
        refine ⟨?_, ?_⟩
        ·rintro ⟨a53, c54⟩ ρ σm hJ hoff hdep
         have e4 := look_off (N := 53) (hoff 4 rfl) rfl
         obtain ⟨H, m⟩ := id hJ
         have hc35 := H.cells 5 rfl
         exact dp_v (v := (.agg #[(Sl Fu Ft.1 Fv), (Sl Fw Ft.2 Fx)])) wn (rv_load (cs := [(Sl Fu Ft.1 Fv), (Sl Fw Ft.2 Fx)]) Tryz.underlying25 rfl ti25 e4 rfl hc35) rfl hJ
        trivial) ?_
      refine all_cons (by
        refine ⟨?_, ?_⟩
        ·rintro ⟨a53, c54⟩ ρ σm hJ hoff hdep
         have e4 := look_off (N := 53) (hoff 4 rfl) rfl
         obtain ⟨H, m⟩ := id hJ
         have hc36 := H.cells 5 rfl
         exact dp_v (v := (.agg #[(Sl Fu Ft.1 Fv), (Sl Fw Ft.2 Fx)])) wn (rv_load (cs := [(Sl Fu Ft.1 Fv), (Sl Fw Ft.2 Fx)]) Tryz.underlying25 rfl ti25 e4 rfl hc36) rfl hJ
        trivial) ?_
      refine ac rfl (by
        intro k; rintro ⟨a53, c54⟩ ρ σm hJ hoff hdep
        have e1 := look_off (N := 53) (hoff 1 rfl) rfl
        exact dp_v (v := (Sl Fk Fj Fl)) wn (rv_move e1) rfl hJ) ?_
      refine ac rfl (by
        intro k; rintro ⟨a53, c54⟩ ρ σm hJ hoff hdep
        have e10 := look_off (N := 53) (hoff 10 rfl) rfl
        exact dp_v (v := (I s24.2)) wn (rv_move e10) rfl hJ) ?_
      refine ac rfl (by
        intro k; rintro ⟨a53, c54⟩ ρ σm hJ hoff hdep
        have e40 := hdep 8 rfl rfl 40 rfl
        have e41 := hdep 9 rfl rfl 41 rfl
        exact dp_v (v := (pt b40 o41)) wn (rv_ix Tryz.underlying26 ti34 e40 e41 hi39) rfl hJ) ?_
      refine ac rfl (by
        intro k; rintro ⟨a53, c54⟩ ρ σm hJ hoff hdep
        have e42 := hdep 10 rfl rfl 42 rfl
        exact dp_v (v := (pt b40 (o41 + 1))) wn (rv_fieldAddr (off := 1) (ft := 27) Tryz.underlying34 rfl ti27 rfl e42) rfl hJ) ?_
      refine all_cons (by
        refine ⟨?_, ?_⟩
        ·rintro ⟨a53, c54⟩ ρ σm hJ hoff hdep
         have e43 := hdep 11 rfl rfl 43 rfl
         obtain ⟨H, m⟩ := id hJ
         replace hc46 := (Hs.ro 1 rfl).hmd hx38 hi39 (k := 1) (by decide) hc46 m
         exact dp_v (v := (Sl a42 x37.2.1 c43)) wn (rv_load1 Tryz.underlying27 rfl e43 hc46) rfl hJ
        trivial) ?_
      refine all_cons (by
        refine ⟨?_, ?_⟩
        ·rintro ⟨a53, c54⟩ ρ σm hJ hoff hdep
         have e39 : look 53 ρ 39 = (.agg #[(Sl Fu Ft.1 Fv), (Sl Fw Ft.2 Fx)]) := hdep 7 rfl rfl 39 rfl
         have e44 : look 53 ρ 44 = (Sl a42 x37.2.1 c43) := hdep 12 rfl rfl 44 rfl
         obtain ⟨H, m⟩ := id hJ
         refine dp_cx wn (cx_call hc49 (ent_f hc49.fn (by show [look 53 ρ 39, look 53 ρ 44] = _; rw [e39, e44])) hn0 (H.sel' [3, 4, 0, 0, 1, 2, 3, 4, 5, 6] rfl rfl : Hp S0 σ0 _ ([_, _, _] ++ _))) ?_
         rintro _ σq ⟨_, ⟨rfl, rfl⟩, H2, m2⟩
         exact ⟨_, (a53, c54), rfl, rfl, ⟨H2.sel' [0, 1, 2, 3, 4, 5, 6] rfl rfl, m.comp0 (m2.mono (fun i h => by simp [cov, Ch.ro] at h))⟩, stab [0, 1, 2, 3, 4, 5, 6, 7, 8, 9, 10, 11, 12, 15, 18] (by kernel_rfl) ⟨rfl, rfl, rfl, rfl, rfl, rfl, rfl, rfl, rfl, rfl, rfl, rfl, rfl, rfl, rfl, trivial⟩⟩
        trivial) ?_
      refine all_cons (by
        refine ⟨?_, ?_⟩
        ·rintro ⟨a53, c54⟩ ρ σm hJ hoff hdep
         have e38 : look 53 ρ 38 = (.agg #[(Sl Fu Ft.1 Fv), (Sl Fw Ft.2 Fx)]) := hdep 6 rfl rfl 38 rfl
         have e45 : look 53 ρ 45 = (I r47) := hdep 13 rfl rfl 45 rfl
         obtain ⟨H, m⟩ := id hJ
         refine dp_cx wn (cx_call hc52 (ent_f hc52.fn (by show [look 53 ρ 38, look 53 ρ 45] = _; rw [e38, e45])) hn0 (H.sel' [3, 4, 0, 1, 2, 3, 4, 5, 6] rfl rfl : Hp S0 σ0 _ ([_, _] ++ _))) ?_
         rintro _ σq ⟨_, ⟨a53x, c54x, rfl, rfl⟩, H2, m2⟩
         obtain ⟨σr0, hwr0, H2, mr0⟩ := H2.pubSc 0 rfl
         exact ⟨_, (a53x, c54x), hwr0, rfl, ⟨H2.sel' [0, 1, 2, 3, 4, 5, 6, 7] rfl rfl, m.comp (m2.comp mr0)⟩, stab [0, 1, 2, 3, 4, 5, 6, 7, 8, 9, 10, 11, 12, 13, 15, 18] (by kernel_rfl) ⟨rfl, rfl, rfl, rfl, rfl, rfl, rfl, rfl, rfl, rfl, rfl, rfl, rfl, rfl, rfl, rfl, trivial⟩⟩
        trivial) ?_
      refine ac rfl (by
        intro k; rintro ⟨a53, c54⟩ ρ σm hJ hoff hdep
        have e2 := look_off (N := 53) (hoff 2 rfl) rfl
        exact dp_v (v := (Sl Bd Bb Be)) wn (rv_move e2) rfl hJ) ?_
      refine all_cons (by
        refine ⟨?_, ?_⟩
        ·rintro ⟨a53, c54⟩ ρ σm hJ hoff hdep
         have e46 : look 53 ρ 46 = (Sl a53 r50 c54) := hdep 14 rfl rfl 46 rfl
         have e47 : look 53 ρ 47 = (Sl Bd Bb Be) := hdep 15 rfl rfl 47 rfl
         obtain ⟨H, m⟩ := id hJ
         refine dp_cx wn (cx_call (hc57 a53 c54) (ent_f (hc57 a53 c54).fn (by show [(I 3), look 53 ρ 46, look 53 ρ 47] = _; rw [e46, e47])) hn0 (H.sel' [0, 3, 0, 1, 2, 3, 4, 5, 6, 7] rfl rfl : Hp S0 σ0 _ ([_, _] ++ _))) ?_
         rintro _ σq ⟨_, ⟨rfl, rfl⟩, H2, m2⟩
         exact ⟨_, (a53, c54), rfl, rfl, ⟨H2.sel' [0, 1, 2, 3, 4, 5, 6, 7] rfl rfl, m.comp0 (m2.mono (fun i h => by simp [cov, Ch.ro] at h))⟩, stab [0, 1, 2, 3, 4, 5, 6, 7, 8, 9, 10, 11, 12, 13, 14, 15, 18] (by kernel_rfl) ⟨rfl, rfl, rfl, rfl, rfl, rfl, rfl, rfl, rfl, rfl, rfl, rfl, rfl, rfl, rfl, rfl, rfl, trivial⟩⟩
        trivial) ?_
      refine ac rfl (by
        intro k; rintro ⟨a53, c54⟩ ρ σm hJ hoff hdep
        have e37 : look 53 ρ 37 = (I x29.1) := hdep 5 rfl rfl 37 rfl
        have e48 : look 53 ρ 48 = (I r55) := hdep 16 rfl rfl 48 rfl
        exact dp_v (v := (.agg #[(I x29.1), (I r55)])) wn (rv_build (ps := [(0, (I x29.1)), (1, (I r55))]) Tryz.underlying43 ti43 (bp43 Tryz.underlying43) (by show [(0, look 53 ρ 37), (1, look 53 ρ 48)] = _; rw [e37, e48]) (by kernel_rfl)) rfl hJ) ?_
      refine ac rfl (by
        intro k; rintro ⟨a53, c54⟩ ρ σm hJ hoff hdep
        have e3 := look_off (N := 53) (hoff 3 rfl) rfl
        exact dp_v (v := (I Bc)) wn (rv_move e3) rfl hJ) ?_
      exact all_nil
     ·rintro ⟨a53, c54⟩ ρ σ58 hJ hoff hrel
      have e1 := look_off (N := 53) (hoff 1 rfl) rfl
      have e2 := look_off (N := 53) (hoff 2 rfl) rfl
      have e3 := look_off (N := 53) (hoff 3 rfl) rfl
      have e4 := look_off (N := 53) (hoff 4 rfl) rfl
      have e10 := look_off (N := 53) (hoff 10 rfl) rfl
      have e32 := hrel 0 rfl 32 rfl
      have e49 := hrel 17 rfl 49 rfl
      have e50 := hrel 18 rfl 50 rfl
      obtain ⟨H, -⟩ := (show Hp S0 σ0 σ58 [Ch.ro 0 (Sl a53 r50 c54) r50, Ch.ro 0 (Sl a42 x37.2.1 c43) x37.2.1, Ch.ro 0 (Sl Fk Fj Fl) Fj, Ch.ro 0 (Sl Bd Bb Be) Bb, Ch.ro 0 (Sl Fu Ft.1 Fv) Ft.1, Ch.ro 0 (Sl Fw Ft.2 Fx) Ft.2, Ch.bx n0 b1 0 [(Sl Fu Ft.1 Fv), (Sl Fw Ft.2 Fx)] [] [], Ch.own n0 n0 (Sl a26 s24.1 c27) s24.1] ∧ Md (fun i => (cov []) i ∨ (fun i => (cov [Ch.ro 0 (Sl Fu Ft.1 Fv) Ft.1, Ch.ro 0 (Sl Fw Ft.2 Fx) Ft.2]) i ∨ (fun b => blk (Sl a53 r50 c54) = some b) i) i) σ25 σ58 from hJ)
      clear hJ Hs
      rw [fr_lookL (L := [(1, (Sl Fk Fj Fl)), (2, (Sl Bd Bb Be)), (3, (I Bc)), (4, (pt b1 0)), (10, (I s24.2)), (32, (Sl a26 s24.1 c27)), (49, (.agg #[(I x29.1), (I r55)])), (50, (I Bc))]) ⟨e1, e2, e3, e4, e10, e32, e49, e50, trivial⟩]
      clear hoff hrel e1 e2 e3 e4 e10 e32 e49 e50
      obtain ⟨σ59, hw60, H, -⟩ := H.pub 7 rfl (Nat.le_refl _)
      rw [← hw60]; clear hw60
      replace H := H.roLow 0 0 rfl (Nat.zero_le _)
      revert h; refine br fun r61 hx62 h => ?_
      have hc63 := c_spec_addHit (Aw := a26) (Ax := c27) hx62
      refine st_call (cx_call hc63 (ent_f hc63.fn rfl) hn0 (H.sel' [0, 0, 1, 2, 3, 4, 5, 6, 7, 8] rfl rfl : Hp S0 σ0 _ ([_] ++ _))) wn ?_
      rintro _ σ66 ⟨_, ⟨a64, c65, rfl, rfl⟩, H, -⟩
      replace H : Hp _ _ _ [_, _, _, _, _, _, _, _, _, _] := H
      replace H : Hp S0 σ0 σ66 [Ch.own n0 n0 (Sl a64 r61 c65) r61, Ch.ro 0 (Sl Fk Fj Fl) Fj, Ch.ro 0 (Sl Bd Bb Be) Bb, Ch.ro 0 (Sl Fu Ft.1 Fv) Ft.1, Ch.ro 0 (Sl Fw Ft.2 Fx) Ft.2, Ch.bx n0 b1 0 [(Sl Fu Ft.1 Fv), (Sl Fw Ft.2 Fx)] [] []] := H.sel' [0, 5, 6, 7, 8, 9] rfl rfl
      refine sa (Sl a64 r61 c65) rfl (w_end (q_blk (q_then (rg (sm (I s24.2) rfl (st (v := (I (w64 (s24.2 + 1)))) (rv_add (a := s24.2) (b := 1) rfl rfl) (sa (I (w64 (s24.2 + 1))) rfl (w_end (q_then ?_)))))))))
      obtain rfl := sj h
      exact ⟨_, rfl, _, σ66, a64, c65, fr_join ⟨rfl, rfl, rfl, rfl, rfl, rfl, trivial⟩, rfl, H.sel' [1, 2, 3, 4, 5, 0] rfl rfl⟩
    ·replace h := bif_f hb28 h
     refine c_exit (q_then_x (q_then_x (q_blk_hit ?_)))
     obtain rfl := sj h
     obtain rfl := hres _ rfl
     exact ⟨rfl, _, σ25, a26, c27, fr_join ⟨rfl, trivial⟩, rfl, H.sel' [5] rfl rfl⟩
   ·clear hj
    have h := h'
    clear h' H
    rintro e a w ⟨rfl, ρ, σ67, a68, c69, rfl, rfl, H⟩
    refine q_then (c_seq (rg (sm (Sl a68 o23 c69) rfl (sa (Sl a68 o23 c69) rfl (w_end (q_then (c_ret ?_)))))))
    obtain rfl := sj h
    exact fin_ret (v := (Sl a68 o23 c69)) (results_ok Tryz.results16 (res_tmp (v := (Sl a68 o23 c69)) rfl res_nil) rfl) ⟨a68, c69, rfl, rfl⟩ (H.sel' [0] rfl rfl)

theorem c_spec_keyAt {Av : List (Int × (List Int) × Int)} {Hv : Int} {Aw : Option Addr} {Ax : Nat} {r : Int} (h : M.spec_keyAt Av Hv = some r) :
    Cal2 Tryz.prog 75 [(Sl Aw Av Ax), (I Hv)] [Ch.ro 0 (Sl Aw Av Ax) Av] (fun n0 v L => v = (I r) ∧ L = []) := by
 refine cal2 (n := 20) Tryz.func75 rfl rfl rfl rfl ?_
 intro S0 σ0 n0 hn0 H
 unfold M.spec_keyAt at h
 refine c_seq (rg (sa (I 0) rfl (w_end (q_then (c_seq (c_seq (rg (sa (I 0) rfl (w_end (q_then ?_))))))))))
 obtain ⟨o1, hj, h'⟩ := bind_some h
 clear h
 refine c_cut (fun e a w => (∃ t, o1 = (.inl t) ∧ e = .normal ∧ ∃ (ρ : Nat → Value) (σ : St), a = fr 20 (updL ρ []) ∧ w = σ.w ∧ Hp S0 σ0 σ []) ∨ (∃ t, o1 = (.inr t) ∧ e = .ret ∧ ∃ (ρ : Nat → Value) (σ : St), a = fr 20 (updL ρ [(4, (I t))]) ∧ w = σ.w ∧ Hp S0 σ0 σ [])) ?_ ?_
 ·clear h'
  rename _ = some o1 => h
  refine c_blk (wp_loopM _ h (fun s2 a w => ∃ (ρ : Nat → Value) (σ : St), a = fr 20 (updL ρ [(0, (Sl Aw Av Ax)), (1, (I Hv)), (5, (I s2))]) ∧ w = σ.w ∧ Hp S0 σ0 σ [Ch.ro 0 (Sl Aw Av Ax) Av]) ⟨_, σ0, fr_join ⟨rfl, rfl, rfl, trivial⟩, rfl, H.sel' [0] rfl rfl⟩ ?_)
  clear h H
  rintro s2 a w o ⟨ρ, σ3, rfl, rfl, H⟩ h hres
  refine c_seq (c_seq (rg (sm (I s2) rfl (sm (Sl Aw Av Ax) rfl (st (v := (I (Av.length : Int))) (rv_len Tryz.underlying26 rfl) (st (v := (B (decide (s2 < (Av.length : Int))))) (rv_lss (a := s2) (b := (Av.length : Int)) rfl rfl) (w_end (q_then ?_))))))))
  refine cd_cond (decide (s2 < (Av.length : Int))) rfl (fun hb4 => ?_) (fun hb4 => ?_)
  ·replace h := bif_t hb4 h
   refine c_skip (q_then (c_seq (c_blk (c_seq (rg (sm (Sl Aw Av Ax) rfl (sm (I s2) rfl ?_)))))))
   revert h; refine br fun x5 hx6 h => ?_
   obtain ⟨b8, o9, hi7, -⟩ := (H.ro 0 rfl).ix hx6
   refine st (v := (pt b8 o9)) (rv_ix Tryz.underlying26 ti34 rfl rfl hi7) (st (v := (pt b8 (o9 + 0))) (rv_fieldAddr (off := 0) (ft := 3) Tryz.underlying34 rfl ti3 rfl rfl) ?_)
   have hc10 := ((H.ro 0 rfl).at hx6 hi7).fst.int
   refine st (v := (I x5.1)) (rv_load1 Tryz.underlying3 rfl rfl hc10) (sm (I Hv) rfl (st (v := (B (x5.1 == Hv))) (rv_eql (a := x5.1) (b := Hv) rfl rfl) (w_end (q_then ?_))))
   refine cd_cond (x5.1 == Hv) rfl (fun hb11 => ?_) (fun hb11 => ?_)
   ·replace h := bif_t hb11 h
    refine c_seq (rg (sm (I s2) rfl (sa (I s2) rfl (w_end (q_then (c_ret (q_blk_r (q_then_r (q_then_r (q_blk_r ?_))))))))))
    obtain rfl := sj h
    obtain rfl := hres _ rfl
    exact .inr (⟨_, rfl, rfl, _, σ3, fr_join ⟨rfl, trivial⟩, rfl, H.sel' [] rfl rfl⟩)
   ·replace h := bif_f hb11 h
    refine c_skip (q_blk (q_then (rg (sm (I s2) rfl (st (v := (I (w64 (s2 + 1)))) (rv_add (a := s2) (b := 1) rfl rfl) (sa (I (w64 (s2 + 1))) rfl (w_end (q_then ?_))))))))
    obtain rfl := sj h
    exact ⟨_, rfl, _, σ3, fr_join ⟨rfl, rfl, rfl, trivial⟩, rfl, H.sel' [0] rfl rfl⟩
  ·replace h := bif_f hb4 h
   refine c_exit (q_then_x (q_then_x (q_blk_hit ?_)))
   obtain rfl := sj h
   obtain rfl := hres _ rfl
   exact .inl ⟨_, rfl, rfl, _, σ3, fr_join trivial, rfl, H.sel' [] rfl rfl⟩
 ·clear hj
  have h := h'
  clear h' H
  rintro e a w (⟨t12, rfl, rfl, ρ, σ13, rfl, rfl, H⟩ | ⟨t14, rfl, rfl, ρ, σ15, rfl, rfl, H⟩)
  ·replace h := selim_l h
   refine q_then (c_seq (rg (sa (I (-1)) rfl (w_end (q_then (c_ret ?_))))))
   obtain rfl := sj h
   exact fin_ret (v := (I (-1))) (results_ok Tryz.results75 (res_tmp (v := (I (-1))) rfl res_nil) rfl) ⟨rfl, rfl⟩ (H.sel' [] rfl rfl)
  ·replace h := selim_r h
   refine q_then_r ?_
   obtain rfl := sj h
   exact fin_ret (v := (I t14)) (results_ok Tryz.results75 (res_tmp (v := (I t14)) rfl res_nil) rfl) ⟨rfl, rfl⟩ (H.sel' [] rfl rfl)

end Go.Vs
