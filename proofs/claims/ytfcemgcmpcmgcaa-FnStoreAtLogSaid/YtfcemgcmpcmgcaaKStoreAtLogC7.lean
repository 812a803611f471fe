/- The functions compute what their models say. -/
import Derived.Test.YtfcemgcmpcmgcaaKStoreAtLogC6
set_option linter.unusedVariables false
set_option linter.unusedSimpArgs false
set_option maxRecDepth 20000
namespace Go.Vs
open Go Go.Proofs
attribute [local irreducible] Code.wp Code.wpIn wpList wpListIn wpQuiet Calls CallsIn

theorem c_slices_IndexFunc_impl_Item_impl_Item__impl_hasItem_1 {Ay : List (Int × (List Int) × Int)} {Fj : Int × (List Int) × Int} {Az : Option Addr} {Ba : Nat} {Fk : Option Addr} {Fl : Nat} {Fm Fn Fo : Nat} {Fp Fq : List Value} {r : Int} (h : M.slices_IndexFunc_impl_Item_impl_Item__impl_hasItem_1 Ay Fj = some r) :
    Cal2 Try.prog 114 [(Sl Az Ay Ba), (.func (.func 100) #[] #[(pt Fn Fo)])] [Ch.ro 0 (Sl Az Ay Ba) Ay, Ch.bx Fm Fn Fo [(I Fj.1), (Sl Fk Fj.2.1 Fl), (I Fj.2.2)] Fp Fq, Ch.ro 0 (Sl Fk Fj.2.1 Fl) Fj.2.1] (fun n0 v L => v = (I r) ∧ L = [Ch.bx Fm Fn Fo [(I Fj.1), (Sl Fk Fj.2.1 Fl), (I Fj.2.2)] Fp Fq]) := by
 refine cal2 (n := 19) Try.func114 rfl rfl rfl rfl ?_
 intro S0 σ0 n0 hn0 H
 unfold M.slices_IndexFunc_impl_Item_impl_Item__impl_hasItem_1 at h
 refine c_seq (rg (sa (I 0) rfl (w_end (q_then (c_seq (c_seq (rg (sm (Sl Az Ay Ba) rfl (st (v := (I (Ay.length : Int))) (rv_len Try.underlying33 rfl) (sm (I 0) rfl (w_end ?_)))))))))))
 refine q_then ?_
 obtain ⟨o1, hj, h'⟩ := bind_some h
 clear h
 refine c_cut (fun e a w => (∃ t, o1 = (.inl t) ∧ e = .normal ∧ ∃ (ρ : Nat → Value) (σ : St), a = fr 19 (updL ρ [(1, (.func (.func 100) #[] #[(pt Fn Fo)]))]) ∧ w = σ.w ∧ Hp S0 σ0 σ [Ch.ro 0 (Sl Fk Fj.2.1 Fl) Fj.2.1, Ch.bx Fm Fn Fo [(I Fj.1), (Sl Fk Fj.2.1 Fl), (I Fj.2.2)] Fp Fq]) ∨ (∃ t, o1 = (.inr t) ∧ e = .ret ∧ ∃ (ρ : Nat → Value) (σ : St), a = fr 19 (updL ρ [(1, (.func (.func 100) #[] #[(pt Fn Fo)])), (4, (I t))]) ∧ w = σ.w ∧ Hp S0 σ0 σ [Ch.ro 0 (Sl Fk Fj.2.1 Fl) Fj.2.1, Ch.bx Fm Fn Fo [(I Fj.1), (Sl Fk Fj.2.1 Fl), (I Fj.2.2)] Fp Fq])) ?_ ?_
 ·clear h'
  rename _ = some o1 => h
  refine c_blk (wp_loopM _ h (fun s2 a w => ∃ (ρ : Nat → Value) (σ : St), a = fr 19 (updL ρ [(0, (Sl Az Ay Ba)), (1, (.func (.func 100) #[] #[(pt Fn Fo)])), (7, (I (Ay.length : Int))), (8, (I s2))]) ∧ w = σ.w ∧ Hp S0 σ0 σ [Ch.ro 0 (Sl Az Ay Ba) Ay, Ch.ro 0 (Sl Fk Fj.2.1 Fl) Fj.2.1, Ch.bx Fm Fn Fo [(I Fj.1), (Sl Fk Fj.2.1 Fl), (I Fj.2.2)] Fp Fq]) ⟨_, σ0, fr_join ⟨rfl, rfl, rfl, rfl, trivial⟩, rfl, H.sel' [0, 2, 1] rfl rfl⟩ ?_)
  clear h H
  rintro s2 a w o ⟨ρ, σ3, rfl, rfl, H⟩ h hres
  refine c_seq (rg (st (v := (B (decide (s2 < (Ay.length : Int))))) (rv_lss (a := s2) (b := (Ay.length : Int)) rfl rfl) (w_end (q_then (c_seq ?_)))))
  refine cd_cond (decide (s2 < (Ay.length : Int))) rfl (fun hb4 => ?_) (fun hb4 => ?_)
  ·replace h := bif_t hb4 h
   refine c_skip (q_then (c_seq (c_blk (c_seq (rg (sm (I s2) rfl (sa (I s2) rfl (w_end (q_then (c_seq (rg ?_)))))))))))
   refine sm (.func (.func 100) #[] #[(pt Fn Fo)]) rfl (sm (Sl Az Ay Ba) rfl (sm (I s2) rfl ?_))
   revert h; refine br fun x5 hx6 h => ?_
   obtain ⟨b8, o9, hi7, -⟩ := (H.ro 0 rfl).ix hx6
   refine st (v := (pt b8 o9)) (rv_ix Try.underlying33 ti41 rfl rfl hi7) ?_
   obtain ⟨_, ⟨_, _, rfl, rfl, ⟨_, _, rfl, ⟨_, rfl, hR14⟩, rfl⟩⟩, hl10, hc11⟩ := ((H.ro 0 rfl).at hx6 hi7).cells
   obtain ⟨a12, c13, rfl⟩ := hR14.isSl
   replace H := H.add (d := Ch.ro 0 (Sl a12 x5.2.1 c13) x5.2.1) hR14 (fun _ h => h)
   clear hR14
   refine st (v := (.agg #[(I x5.1), (Sl a12 x5.2.1 c13), (I x5.2.2)])) (rv_load Try.underlying41 rfl ti41 rfl hl10 hc11) ?_
   revert h; refine br fun r15 hx16 h => ?_
   have hc17 := c_impl_hasItem_1__p_impl_Item (Fa := a12) (Fb := c13) (Fe := Fm) (Ff := Fn) (Fg := Fo) (Fh := Fp) (Fi := Fq) (Fc := Fk) (Fd := Fl) hx16
   refine st_call (cx_call hc17 (ent_v (cap := [(pt Fn Fo)]) hc17.fn rfl rfl) hn0 (H.sel' [0, 3, 2, 0, 1, 2] rfl rfl : Hp S0 σ0 _ ([_, _, _] ++ _))) wn ?_
   rintro _ σ18 ⟨_, ⟨rfl, rfl⟩, H, -⟩
   replace H : Hp _ _ _ [_, _, _, _] := H
   refine w_end (q_then ?_)
   refine cd_cond r15 rfl (fun hb19 => ?_) (fun hb19 => ?_)
   ·replace h := bif_t hb19 h
    refine c_seq (rg (sm (I s2) rfl (sa (I s2) rfl (w_end (q_then (c_ret (q_blk_r (q_then_r (q_then_r (q_blk_r ?_))))))))))
    obtain rfl := sj h
    obtain rfl := hres _ rfl
    exact .inr (⟨_, rfl, rfl, _, σ18, fr_join ⟨rfl, rfl, trivial⟩, rfl, H.sel' [3, 0] rfl rfl⟩)
   ·replace h := bif_f hb19 h
    refine c_skip (q_blk (q_then (rg (st (v := (I (w64 (s2 + 1)))) (rv_add (a := s2) (b := 1) rfl rfl) (sm (I (w64 (s2 + 1))) rfl (w_end (q_then ?_)))))))
    obtain rfl := sj h
    exact ⟨_, rfl, _, σ18, fr_join ⟨rfl, rfl, rfl, rfl, trivial⟩, rfl, H.sel' [2, 3, 0] rfl rfl⟩
  ·replace h := bif_f hb4 h
   refine c_exit (q_then_x (q_then_x (q_blk_hit ?_)))
   obtain rfl := sj h
   obtain rfl := hres _ rfl
   exact .inl ⟨_, rfl, rfl, _, σ3, fr_join ⟨rfl, trivial⟩, rfl, H.sel' [1, 2] rfl rfl⟩
 ·clear hj
  have h := h'
  clear h' H
  rintro e a w (⟨t20, rfl, rfl, ρ, σ21, rfl, rfl, H⟩ | ⟨t22, rfl, rfl, ρ, σ23, rfl, rfl, H⟩)
  ·replace h := selim_l h
   refine q_then (c_seq (rg (sa (I (-1)) rfl (w_end (q_then (c_ret ?_))))))
   obtain rfl := sj h
   exact fin_ret (v := (I (-1))) (results_ok Try.results114 (res_tmp (v := (I (-1))) rfl res_nil) rfl) ⟨rfl, rfl⟩ (H.sel' [1] rfl rfl)
  ·replace h := selim_r h
   refine q_then_r ?_
   obtain rfl := sj h
   exact fin_ret (v := (I t22)) (results_ok Try.results114 (res_tmp (v := (I t22)) rfl res_nil) rfl) ⟨rfl, rfl⟩ (H.sel' [1] rfl rfl)

theorem c_slices_ContainsFunc_impl_Item_impl_Item__impl_hasItem_1 {Ay : List (Int × (List Int) × Int)} {Fj : Int × (List Int) × Int} {Az : Option Addr} {Ba : Nat} {Fk : Option Addr} {Fl : Nat} {Fm Fn Fo : Nat} {Fp Fq : List Value} {r : Bool} (h : M.slices_ContainsFunc_impl_Item_impl_Item__impl_hasItem_1 Ay Fj = some r) :
    Cal2 Try.prog 99 [(Sl Az Ay Ba), (.func (.func 100) #[] #[(pt Fn Fo)])] [Ch.ro 0 (Sl Az Ay Ba) Ay, Ch.bx Fm Fn Fo [(I Fj.1), (Sl Fk Fj.2.1 Fl), (I Fj.2.2)] Fp Fq, Ch.ro 0 (Sl Fk Fj.2.1 Fl) Fj.2.1] (fun n0 v L => v = (B r) ∧ L = [Ch.bx Fm Fn Fo [(I Fj.1), (Sl Fk Fj.2.1 Fl), (I Fj.2.2)] Fp Fq]) := by
 refine cal2 (n := 9) Try.func99 rfl rfl rfl rfl ?_
 intro S0 σ0 n0 hn0 H
 unfold M.slices_ContainsFunc_impl_Item_impl_Item__impl_hasItem_1 at h
 refine c_seq (rg (sa (B false) rfl (w_end (q_then (c_seq (rg (sm (Sl Az Ay Ba) rfl (sm (.func (.func 100) #[] #[(pt Fn Fo)]) rfl ?_))))))))
 revert h; refine br fun r1 hx2 h => ?_
 have hc3 := c_slices_IndexFunc_impl_Item_impl_Item__impl_hasItem_1 (Az := Az) (Ba := Ba) (Fm := Fm) (Fn := Fn) (Fo := Fo) (Fp := Fp) (Fq := Fq) (Fk := Fk) (Fl := Fl) hx2
 refine st_call (cx_call hc3 (ent_f hc3.fn rfl) hn0 (H.sel' [0, 1, 2, 0, 2] rfl rfl : Hp S0 σ0 _ ([_, _, _] ++ _))) wn ?_
 rintro _ σ4 ⟨_, ⟨rfl, rfl⟩, H, -⟩
 replace H : Hp _ _ _ [_, _, _] := H
 refine st (v := (B (decide (0 ≤ r1)))) (rv_geq (a := r1) (b := 0) rfl rfl) (sa (B (decide (0 ≤ r1))) rfl (w_end (q_then (c_ret ?_))))
 obtain rfl := sj h
 exact fin_ret (v := (B (decide (0 ≤ r1)))) (results_ok Try.results99 (res_tmp (v := (B (decide (0 ≤ r1)))) rfl res_nil) rfl) ⟨rfl, rfl⟩ (H.sel' [0] rfl rfl)

theorem c_impl_hasItem {Ao : List (Int × (List Int) × Int)} {Bq : Int × (List Int) × Int} {Ap : Option Addr} {Aq : Nat} {Br : Option Addr} {Bs : Nat} {r : Bool} (h : M.impl_hasItem Ao Bq = some r) :
    Cal2 Try.prog 70 [(Sl Ap Ao Aq), (.agg #[(I Bq.1), (Sl Br Bq.2.1 Bs), (I Bq.2.2)])] [Ch.ro 0 (Sl Ap Ao Aq) Ao, Ch.ro 0 (Sl Br Bq.2.1 Bs) Bq.2.1] (fun n0 v L => v = (B r) ∧ L = []) := by
 refine cal2 (n := 8) Try.func70 rfl rfl rfl rfl ?_
 intro S0 σ0 n0 hn0 H
 unfold M.impl_hasItem at h
 refine c_seq (rg (st_ex (ex_box (cs := [(I Bq.1), (Sl Br Bq.2.1 Bs), (I Bq.2.2)]) H hn0 rfl rfl) wn ?_))
 rintro _ σ2 ⟨b1, rfl, H, -⟩
 refine sa (B false) rfl (w_end (q_then (c_seq (rg (sm (Sl Ap Ao Aq) rfl (st (v := (.func (.func 100) #[] #[(pt b1 0)])) (rv_makeFunc (vs := [(pt b1 0)]) rfl) ?_))))))
 revert h; refine br fun r3 hx4 h => ?_
 have hc5 := c_slices_ContainsFunc_impl_Item_impl_Item__impl_hasItem_1 (Az := Ap) (Ba := Aq) (Fm := n0) (Fn := b1) (Fo := 0) (Fp := []) (Fq := []) (Fk := Br) (Fl := Bs) hx4
 refine st_call (cx_call hc5 (ent_f hc5.fn rfl) hn0 (H.sel' [1, 0, 2, 1, 2] rfl rfl : Hp S0 σ0 _ ([_, _, _] ++ _))) wn ?_
 rintro _ σ6 ⟨_, ⟨rfl, rfl⟩, H, -⟩
 replace H : Hp _ _ _ [_, _, _] := H
 refine sa (B r3) rfl (w_end (q_then (c_ret ?_)))
 obtain rfl := sj h
 exact fin_ret (v := (B r3)) (results_ok Try.results70 (res_tmp (v := (B r3)) rfl res_nil) rfl) ⟨rfl, rfl⟩ (H.sel' [] rfl rfl)

theorem c_impl_putChange_entry {Bi : (Int × (List Int) × Int)} {Bt : Option Addr} {Bu : Nat} {r : (Int × (Int × (List Int) × Int))} (h : M.impl_putChange_entry Bi = some r) :
    Cal2 Try.prog 71 [(.agg #[(I Bi.1), (Sl Bt Bi.2.1 Bu), (I Bi.2.2)])] [Ch.ro 0 (Sl Bt Bi.2.1 Bu) Bi.2.1] (fun n0 v L => ∃ (az1 : Option Addr), ∃ (cz2 : Nat), v = (.agg #[(I r.1), (I r.2.1), (Sl az1 r.2.2.1 cz2), (I r.2.2.2)]) ∧ L = [Ch.own n0 n0 (Sl az1 r.2.2.1 cz2) r.2.2.1]) := by
 refine cal2 (n := 7) Try.func71 rfl rfl rfl rfl ?_
 intro S0 σ0 n0 hn0 H
 unfold M.impl_putChange_entry at h
 refine c_seq (rg (st_ex (ex_box (cs := [(I Bi.1), (Sl Bt Bi.2.1 Bu), (I Bi.2.2)]) H hn0 rfl rfl) wn ?_))
 rintro _ σ2 ⟨b1, rfl, H, -⟩
 refine st_ex (ex_alloc (cs := [(I 0), (I 0), (.slice none 0 0), (I 0)]) H hn0 ti43 rfl) wn ?_
 rintro _ σ4 ⟨b3, rfl, H, -⟩
 refine w_end (q_then (c_seq (rg (st (v := (pt b1 0)) (rv_fieldAddr (off := 0) (ft := 41) Try.underlying98 rfl ti41 rfl rfl) ?_))))
 have hc5 := H.part (us := [(I Bi.1), (Sl Bt Bi.2.1 Bu), (I Bi.2.2)]) (o' := 0) 1 0 3 rfl rfl rfl rfl
 refine st (v := (.agg #[(I Bi.1), (Sl Bt Bi.2.1 Bu), (I Bi.2.2)])) (rv_load (cs := [(I Bi.1), (Sl Bt Bi.2.1 Bu), (I Bi.2.2)]) Try.underlying41 rfl ti41 rfl rfl hc5) ?_
 revert h; refine br fun r6 hx7 h => ?_
 have hc8 := c_impl_copyItem (Ak := Bt) (Am := Bu) hx7
 refine st_call (cx_call hc8 (ent_f hc8.fn rfl) hn0 (H.sel' [2, 0, 1, 2] rfl rfl : Hp S0 σ0 _ ([_] ++ _))) wn ?_
 rintro _ σ11 ⟨_, ⟨a9, c10, rfl, rfl⟩, H, -⟩
 replace H : Hp _ _ _ [_, _, _, _] := H
 refine st (v := (.agg #[(I 1), (I r6.1), (Sl a9 r6.2.1 c10), (I r6.2.2)])) (rv_build (ps := [(0, (I 1)), (1, (.agg #[(I r6.1), (Sl a9 r6.2.1 c10), (I r6.2.2)]))]) Try.underlying43 ti43 (bp43 Try.underlying43) rfl (by kernel_rfl)) ?_
 refine st_exS (ex_store_box (k := 0) (cs := [(I 0), (I 0), (.slice none 0 0), (I 0)]) (vs := [(I 1), (I r6.1), (Sl a9 r6.2.1 c10), (I r6.2.2)]) (cs' := [(I 1), (I r6.1), (Sl a9 r6.2.1 c10), (I r6.2.2)]) H (i := 1) rfl ti43 rfl rfl rfl rfl rfl (Nat.le_of_ble_eq_true rfl) (by simp [plain]) rfl) wn ?_
 rintro σ12 ⟨H, -⟩
 refine w_end (q_then (c_ret ?_))
 obtain rfl := sj h
 exact fin_ret (v := (.agg #[(I 1), (I r6.1), (Sl a9 r6.2.1 c10), (I r6.2.2)])) (results_ok Try.results71 (res_cell rfl (run_cellRes (cs := [(I 1), (I r6.1), (Sl a9 r6.2.1 c10), (I r6.2.2)]) Try.underlying43 rfl ti43 rfl (H.cells 0 rfl)) res_nil) rfl) ⟨a9, c10, rfl, rfl⟩ (H.sel' [1] rfl rfl)

theorem c_impl_LogBetween {Cr : List (Int × (List Int) × Int)} {Cs : List (Int × (List Int) × Int)} {Ct : Option Addr} {Cu : Nat} {Cv : Option Addr} {Cw : Nat} {r : (List (Int × (Int × (List Int) × Int)))} (h : M.impl_LogBetween Cr Cs = some r) :
    Cal2 Try.prog 39 [(Sl Ct Cr Cu), (Sl Cv Cs Cw)] [Ch.ro 0 (Sl Ct Cr Cu) Cr, Ch.ro 0 (Sl Cv Cs Cw) Cs] (fun n0 v L => ∃ (az1 : Option Addr), ∃ (cz2 : Nat), v = (Sl az1 r cz2) ∧ L = [Ch.own n0 n0 (Sl az1 r cz2) r]) := by
 refine cal2 (n := 61) Try.func39 rfl rfl rfl rfl ?_
 intro S0 σ0 n0 hn0 H
 unfold M.impl_LogBetween at h
 refine c_seq (rg (sa (.slice none 0 0) rfl (w_end (q_then (c_seq (c_seq ?_))))))
 obtain ⟨o1, hj, h'⟩ := bind_some h
 clear h
 refine c_cut (fun e a w => e = .normal ∧ ∃ (ρ : Nat → Value) (σ : St), a = fr 61 (updL ρ [(0, (Sl Ct Cr Cu)), (1, (Sl Cv Cs Cw)), (19, (B o1))]) ∧ w = σ.w ∧ Hp S0 σ0 σ [Ch.ro 0 (Sl Ct Cr Cu) Cr, Ch.ro 0 (Sl Cv Cs Cw) Cs]) ?_ ?_
 ·clear h'
  rename _ = some o1 => h
  refine rg (sm (Sl Ct Cr Cu) rfl ?_)
  revert h; refine br fun r2 hx3 h => ?_
  have hc4 := c_impl_ValidStore (Ap := Ct) (Aq := Cu) hx3
  refine st_call (cx_call hc4 (ent_f hc4.fn rfl) hn0 (H.sel' [0, 0, 1] rfl rfl : Hp S0 σ0 _ ([_] ++ _))) wn ?_
  rintro _ σ5 ⟨_, ⟨rfl, rfl⟩, H, -⟩
  replace H : Hp _ _ _ [_, _] := H
  refine st (v := (B (!r2))) (rv_not rfl) (sm (B (!r2)) rfl ?_)
  rcases Bool.eq_false_or_eq_true (!r2) with hb6 | hb6
  ·replace h := bif_t hb6 h
   refine st_skip (congrArg some hb6) (st_skip (congrArg some hb6) (st_skip (congrArg some hb6) (st (v := (B true)) (rv_pick_t (congrArg B hb6) rfl) (w_end ?_))))
   obtain rfl := sj h
   exact ⟨rfl, _, σ5, fr_join ⟨rfl, rfl, rfl, trivial⟩, rfl, H.sel' [0, 1] rfl rfl⟩
  ·replace h := bif_f hb6 h
   refine st_g (v := (Sl Cv Cs Cw)) (congrArg some hb6) (rv_move rfl) ?_
   revert h; refine br fun r7 hx8 h => ?_
   have hc9 := c_impl_ValidStore (Ap := Cv) (Aq := Cw) hx8
   refine st_call (cx_call hc9 (ent_f hc9.fn rfl) hn0 (H.sel' [1, 0, 1] rfl rfl : Hp S0 σ0 _ ([_] ++ _))) (wanted_yes rfl (by exact (congrArg some hb6))) ?_
   rintro _ σ10 ⟨_, ⟨rfl, rfl⟩, H, -⟩
   replace H : Hp _ _ _ [_, _] := H
   refine st_g (v := (B (!r7))) (congrArg some hb6) (rv_not rfl) (st (v := (B (!r7))) (rv_pick_f (congrArg B hb6) rfl) (w_end ?_))
   obtain rfl := sj h
   exact ⟨rfl, _, σ10, fr_join ⟨rfl, rfl, rfl, trivial⟩, rfl, H.sel' [0, 1] rfl rfl⟩
 ·clear hj
  have h := h'
  clear h' H
  rintro e a w ⟨rfl, ρ, σ11, rfl, rfl, H⟩
  refine q_then ?_
  refine cd_cond o1 rfl (fun hb12 => ?_) (fun hb12 => ?_)
  ·replace h := bif_t hb12 h
   refine c_seq (rg (sa (.slice none 0 0) rfl (w_end (q_then (c_ret (q_then_r ?_))))))
   replace H := H.nilOwn (Int × (Int × (List Int) × Int)) n0 n0
   obtain rfl := sj h
   exact fin_ret (v := (.slice none 0 0)) (results_ok Try.results39 (res_tmp (v := (.slice none 0 0)) rfl res_nil) rfl) ⟨none, 0, rfl, rfl⟩ (H.sel' [0] rfl rfl)
  ·replace h := bif_f hb12 h
   refine c_skip (q_then (c_seq (rg (sa (.slice none 0 0) rfl (w_end (q_then (c_seq (c_seq (rg (sm (Sl Ct Cr Cu) rfl (st (v := (I (Cr.length : Int))) (rv_len Try.underlying33 rfl) ?_)))))))))))
   refine sm (I 0) rfl (w_end (q_then ?_))
   obtain ⟨o13, hj, h'⟩ := bind_some h
   clear h
   refine c_cut (fun e a w => e = .normal ∧ ∃ (ρ : Nat → Value) (σ : St) (aj1 : Option Addr) (cj2 : Nat), a = fr 61 (updL ρ [(0, (Sl Ct Cr Cu)), (1, (Sl Cv Cs Cw)), (5, (Sl aj1 o13 cj2))]) ∧ w = σ.w ∧ Hp S0 σ0 σ [Ch.ro 0 (Sl Ct Cr Cu) Cr, Ch.ro 0 (Sl Cv Cs Cw) Cs, Ch.own n0 n0 (Sl aj1 o13 cj2) o13]) ?_ ?_
   ·clear h'
    rename _ = some o13 => h
    refine c_blk ?_
    replace H := H.nilOwn (Int × (Int × (List Int) × Int)) n0 n0
    refine wp_loopM _ h (fun s14 a w => ∃ (ρ : Nat → Value) (σ : St) (aj1 : Option Addr) (cj2 : Nat), a = fr 61 (updL ρ [(0, (Sl Ct Cr Cu)), (1, (Sl Cv Cs Cw)), (5, (Sl aj1 s14.1 cj2)), (20, (Sl Ct Cr Cu)), (21, (I (Cr.length : Int))), (22, (I s14.2))]) ∧ w = σ.w ∧ Hp S0 σ0 σ [Ch.ro 0 (Sl Ct Cr Cu) Cr, Ch.ro 0 (Sl Cv Cs Cw) Cs, Ch.own n0 n0 (Sl aj1 s14.1 cj2) s14.1]) ⟨_, σ11, none, 0, fr_join ⟨rfl, rfl, rfl, rfl, rfl, rfl, trivial⟩, rfl, H.sel' [1, 2, 0] rfl rfl⟩ ?_
    clear h H
    rintro s14 a w o ⟨ρ, σ15, a16, c17, rfl, rfl, H⟩ h hres
    refine c_seq (rg (st (v := (B (decide (s14.2 < (Cr.length : Int))))) (rv_lss (a := s14.2) (b := (Cr.length : Int)) rfl rfl) (w_end (q_then (c_seq ?_)))))
    refine cd_cond (decide (s14.2 < (Cr.length : Int))) rfl (fun hb18 => ?_) (fun hb18 => ?_)
    ·replace h := bif_t hb18 h
     refine c_skip (q_then (c_seq ?_))
     obtain ⟨o19, hj, h'⟩ := bind_some h
     clear h
     refine c_cut (fun e a w => e = .normal ∧ ∃ (ρ : Nat → Value) (σ : St) (aj1 : Option Addr) (cj2 : Nat), a = fr 61 (updL ρ [(0, (Sl Ct Cr Cu)), (1, (Sl Cv Cs Cw)), (5, (Sl aj1 o19 cj2)), (20, (Sl Ct Cr Cu)), (21, (I (Cr.length : Int))), (22, (I s14.2))]) ∧ w = σ.w ∧ Hp S0 σ0 σ [Ch.ro 0 (Sl Ct Cr Cu) Cr, Ch.ro 0 (Sl Cv Cs Cw) Cs, Ch.own n0 n0 (Sl aj1 o19 cj2) o19]) ?_ ?_
     ·clear h'
      rename _ = some o19 => h
      refine c_blk (c_seq (rg ?_))
      revert h; refine br fun x20 hx21 h => ?_
      obtain ⟨b23, o24, hi22, -⟩ := (H.ro 0 rfl).ix hx21
      refine st (v := (pt b23 o24)) (rv_ix Try.underlying33 ti41 rfl rfl hi22) ?_
      obtain ⟨_, ⟨_, _, rfl, rfl, ⟨_, _, rfl, ⟨_, rfl, hR29⟩, rfl⟩⟩, hl25, hc26⟩ := ((H.ro 0 rfl).at hx21 hi22).cells
      obtain ⟨a27, c28, rfl⟩ := hR29.isSl
      replace H := H.add (d := Ch.ro 0 (Sl a27 x20.2.1 c28) x20.2.1) hR29 (fun _ h => h)
      clear hR29
      refine st (v := (.agg #[(I x20.1), (Sl a27 x20.2.1 c28), (I x20.2.2)])) (rv_load Try.underlying41 rfl ti41 rfl hl25 hc26) (st_ex (ex_alloc (cs := [(I 0), (.slice none 0 0), (I 0)]) H hn0 ti41 rfl) wn ?_)
      rintro _ σ31 ⟨b30, rfl, H, -⟩
      refine st_exS (ex_store_box (k := 0) (cs := [(I 0), (.slice none 0 0), (I 0)]) (vs := [(I x20.1), (Sl a27 x20.2.1 c28), (I x20.2.2)]) (cs' := [(I x20.1), (Sl a27 x20.2.1 c28), (I x20.2.2)]) H (i := 0) rfl ti41 rfl rfl rfl rfl rfl (Nat.le_of_ble_eq_true rfl) (by simp [plain]) rfl) wn ?_
      rintro σ32 ⟨H, -⟩
      refine w_end (q_then (c_seq (rg (sm (Sl Cv Cs Cw) rfl (st (v := (pt b30 0)) (rv_fieldAddr (off := 0) (ft := 3) Try.underlying41 rfl ti3 rfl rfl) ?_)))))
      have hc33 := H.cell (u := (I x20.1)) (o' := 0) 0 0 rfl rfl rfl
      refine st (v := (I x20.1)) (rv_load1 Try.underlying3 rfl rfl hc33) ?_
      revert h; refine br fun r34 hx35 h => ?_
      have hc36 := c_impl_placeOf (Ap := Cv) (Aq := Cw) hx35
      refine st_call (cx_call hc36 (ent_f hc36.fn rfl) hn0 (H.sel' [3, 0, 1, 2, 3, 4] rfl rfl : Hp S0 σ0 _ ([_] ++ _))) wn ?_
      rintro _ σ37 ⟨_, ⟨rfl, rfl⟩, H, -⟩
      replace H : Hp _ _ _ [_, _, _, _, _] := H
      refine sm (.tuple #[(I r34.1), (B r34.2)]) rfl (st (v := (I r34.1)) (rv_extract rfl rfl) (st (v := (B r34.2)) (rv_extract rfl rfl) (sa (I r34.1) rfl (sa (B r34.2) rfl (w_end (q_then (c_seq (rg (sm (B r34.2) rfl (st (v := (B (!r34.2))) (rv_not rfl) (w_end ?_)))))))))))
      refine q_then ?_
      refine cd_cond (!r34.2) rfl (fun hb38 => ?_) (fun hb38 => ?_)
      ·replace h := bif_t hb38 h
       refine rg (sm (Sl a16 s14.1 c17) rfl (st (v := (pt b30 0)) (rv_fieldAddr (off := 0) (ft := 3) Try.underlying41 rfl ti3 rfl rfl) ?_))
       have hc39 := H.cell (u := (I x20.1)) (o' := 0) 0 0 rfl rfl rfl
       refine st (v := (I x20.1)) (rv_load1 Try.underlying3 rfl rfl hc39) ?_
       refine st (v := (.agg #[(I x20.1)])) (rv_build (ps := [(0, (I x20.1))]) Try.underlying94 ti94 (bp94 Try.underlying94) rfl (by kernel_rfl)) ?_
       revert h; refine br fun r40 hx41 h => ?_
       have hc42 := c_impl_dropChange_entry hx41
       refine st_call (cx_call hc42 (ent_f hc42.fn rfl) hn0 (H.sel' [0, 1, 2, 3, 4] rfl rfl : Hp S0 σ0 _ ([] ++ _))) wn ?_
       rintro _ σ43 ⟨_, ⟨rfl, rfl⟩, H, -⟩
       replace H : Hp _ _ _ [_, _, _, _, _] := H
       refine st_ex (ex_buildSlice (el := n0) (xs := ([(r40.1, (r40.2.1, [], r40.2.2.2))] : List (Int × (Int × (List Int) × Int)))) (ps := [(0, (.agg #[(I r40.1), (I r40.2.1), (.slice none 0 0), (I r40.2.2.2)]))]) (cs := [(I r40.1), (I r40.2.1), (.slice none 0 0), (I r40.2.2.2)]) H hn0 Try.underlying23 ti43 rfl rfl (by kernel_rfl) (.cons (c := [(I r40.1), (I r40.2.1), (.slice none 0 0), (I r40.2.2.2)]) ⟨[(I r40.1)], [(I r40.2.1), (.slice none 0 0), (I r40.2.2.2)], rfl, rfl, ⟨[(I r40.2.1)], [(.slice none 0 0), (I r40.2.2.2)], rfl, rfl, ⟨[(.slice none 0 0)], [(I r40.2.2.2)], rfl, ⟨_, rfl, RS.nil⟩, rfl⟩⟩⟩ (.nil)) rfl) wn ?_
       rintro _ σ45 ⟨b44, rfl, H, -⟩
       revert h; refine br fun xs46 hx47 h => ?_
       refine st_ex (ex_append H (i := 5) rfl Try.underlying23 Try.underlying23 ti43 rfl rfl (by decide) (H.own 0 rfl).rd hx47 hn0 rfl rfl) wn ?_
       rintro _ σ50 ⟨a48, c49, rfl, H, -⟩
       refine sa (Sl a48 xs46 c49) rfl (w_end (q_blk ?_))
       obtain rfl := sj h
       exact ⟨rfl, _, σ50, a48, c49, fr_join ⟨rfl, rfl, rfl, rfl, rfl, rfl, trivial⟩, rfl, H.sel' [4, 5, 0] rfl rfl⟩
      ·replace h := bif_f hb38 h
       refine c_skip (q_blk ?_)
       obtain rfl := sj h
       exact ⟨rfl, _, σ37, a16, c17, fr_join ⟨rfl, rfl, rfl, rfl, rfl, rfl, trivial⟩, rfl, H.sel' [2, 3, 4] rfl rfl⟩
     ·clear hj
      have h := h'
      clear h' H
      rintro e a w ⟨rfl, ρ, σ51, a52, c53, rfl, rfl, H⟩
      refine q_then (rg (st (v := (I (w64 (s14.2 + 1)))) (rv_add (a := s14.2) (b := 1) rfl rfl) (sm (I (w64 (s14.2 + 1))) rfl (w_end (q_then ?_)))))
      obtain rfl := sj h
      exact ⟨_, rfl, _, σ51, a52, c53, fr_join ⟨rfl, rfl, rfl, rfl, rfl, rfl, trivial⟩, rfl, H.sel' [0, 1, 2] rfl rfl⟩
    ·replace h := bif_f hb18 h
     refine c_exit (q_then_x (q_then_x (q_blk_hit ?_)))
     obtain rfl := sj h
     obtain rfl := hres _ rfl
     exact ⟨rfl, _, σ15, a16, c17, fr_join ⟨rfl, rfl, rfl, trivial⟩, rfl, H.sel' [0, 1, 2] rfl rfl⟩
   ·clear hj
    have h := h'
    clear h' H
    rintro e a w ⟨rfl, ρ, σ54, a55, c56, rfl, rfl, H⟩
    refine q_then (c_seq (c_seq (rg (sm (Sl Cv Cs Cw) rfl (st (v := (I (Cs.length : Int))) (rv_len Try.underlying33 rfl) (sm (I 0) rfl (w_end (q_then ?_))))))))
    obtain ⟨o57, hj, h'⟩ := bind_some h
    clear h
    refine c_cut (fun e a w => e = .normal ∧ ∃ (ρ : Nat → Value) (σ : St) (aj1 : Option Addr) (cj2 : Nat), a = fr 61 (updL ρ [(5, (Sl aj1 o57 cj2))]) ∧ w = σ.w ∧ Hp S0 σ0 σ [Ch.own n0 n0 (Sl aj1 o57 cj2) o57]) ?_ ?_
    ·clear h'
     rename _ = some o57 => h
     refine c_blk (wp_loopM _ h (fun s58 a w => ∃ (ρ : Nat → Value) (σ : St) (aj1 : Option Addr) (cj2 : Nat), a = fr 61 (updL ρ [(0, (Sl Ct Cr Cu)), (5, (Sl aj1 s58.1 cj2)), (43, (Sl Cv Cs Cw)), (44, (I (Cs.length : Int))), (45, (I s58.2))]) ∧ w = σ.w ∧ Hp S0 σ0 σ [Ch.ro 0 (Sl Ct Cr Cu) Cr, Ch.own n0 n0 (Sl aj1 s58.1 cj2) s58.1, Ch.ro 0 (Sl Cv Cs Cw) Cs]) ⟨_, σ54, a55, c56, fr_join ⟨rfl, rfl, rfl, rfl, rfl, trivial⟩, rfl, H.sel' [0, 2, 1] rfl rfl⟩ ?_)
     clear h H
     rintro s58 a w o ⟨ρ, σ59, a60, c61, rfl, rfl, H⟩ h hres
     refine c_seq (rg (st (v := (B (decide (s58.2 < (Cs.length : Int))))) (rv_lss (a := s58.2) (b := (Cs.length : Int)) rfl rfl) (w_end (q_then (c_seq ?_)))))
     refine cd_cond (decide (s58.2 < (Cs.length : Int))) rfl (fun hb62 => ?_) (fun hb62 => ?_)
     ·replace h := bif_t hb62 h
      refine c_skip (q_then (c_seq ?_))
      obtain ⟨o63, hj, h'⟩ := bind_some h
      clear h
      refine c_cut (fun e a w => e = .normal ∧ ∃ (ρ : Nat → Value) (σ : St) (aj1 : Option Addr) (cj2 : Nat), a = fr 61 (updL ρ [(0, (Sl Ct Cr Cu)), (5, (Sl aj1 o63 cj2)), (43, (Sl Cv Cs Cw)), (44, (I (Cs.length : Int))), (45, (I s58.2))]) ∧ w = σ.w ∧ Hp S0 σ0 σ [Ch.ro 0 (Sl Ct Cr Cu) Cr, Ch.own n0 n0 (Sl aj1 o63 cj2) o63, Ch.ro 0 (Sl Cv Cs Cw) Cs]) ?_ ?_
      ·clear h'
       rename _ = some o63 => h
       refine c_blk (c_seq (rg ?_))
       revert h; refine br fun x64 hx65 h => ?_
       obtain ⟨b67, o68, hi66, -⟩ := (H.ro 2 rfl).ix hx65
       refine st (v := (pt b67 o68)) (rv_ix Try.underlying33 ti41 rfl rfl hi66) ?_
       obtain ⟨_, ⟨_, _, rfl, rfl, ⟨_, _, rfl, ⟨_, rfl, hR73⟩, rfl⟩⟩, hl69, hc70⟩ := ((H.ro 2 rfl).at hx65 hi66).cells
       obtain ⟨a71, c72, rfl⟩ := hR73.isSl
       replace H := H.add (d := Ch.ro 0 (Sl a71 x64.2.1 c72) x64.2.1) hR73 (fun _ h => h)
       clear hR73
       refine st (v := (.agg #[(I x64.1), (Sl a71 x64.2.1 c72), (I x64.2.2)])) (rv_load Try.underlying41 rfl ti41 rfl hl69 hc70) (st_ex (ex_alloc (cs := [(I 0), (.slice none 0 0), (I 0)]) H hn0 ti41 rfl) wn ?_)
       rintro _ σ75 ⟨b74, rfl, H, -⟩
       refine st_exS (ex_store_box (k := 0) (cs := [(I 0), (.slice none 0 0), (I 0)]) (vs := [(I x64.1), (Sl a71 x64.2.1 c72), (I x64.2.2)]) (cs' := [(I x64.1), (Sl a71 x64.2.1 c72), (I x64.2.2)]) H (i := 0) rfl ti41 rfl rfl rfl rfl rfl (Nat.le_of_ble_eq_true rfl) (by simp [plain]) rfl) wn ?_
       rintro σ76 ⟨H, -⟩
       refine w_end (q_then (c_seq (rg (sm (Sl Ct Cr Cu) rfl ?_))))
       have hc77 := H.cells 0 rfl
       refine st (v := (.agg #[(I x64.1), (Sl a71 x64.2.1 c72), (I x64.2.2)])) (rv_load (cs := [(I x64.1), (Sl a71 x64.2.1 c72), (I x64.2.2)]) Try.underlying41 rfl ti41 rfl rfl hc77) ?_
       revert h; refine br fun r78 hx79 h => ?_
       have hc80 := c_impl_hasItem (Ap := Ct) (Aq := Cu) (Br := a71) (Bs := c72) hx79
       refine st_call (cx_call hc80 (ent_f hc80.fn rfl) hn0 (H.sel' [2, 1, 0, 1, 2, 3, 4] rfl rfl : Hp S0 σ0 _ ([_, _] ++ _))) wn ?_
       rintro _ σ81 ⟨_, ⟨rfl, rfl⟩, H, -⟩
       replace H : Hp _ _ _ [_, _, _, _, _] := H
       refine st (v := (B (!r78))) (rv_not rfl) (w_end (q_then ?_))
       refine cd_cond (!r78) rfl (fun hb82 => ?_) (fun hb82 => ?_)
       ·replace h := bif_t hb82 h
        refine rg (sm (Sl a60 s58.1 c61) rfl ?_)
        have hc83 := H.cells 0 rfl
        refine st (v := (.agg #[(I x64.1), (Sl a71 x64.2.1 c72), (I x64.2.2)])) (rv_load (cs := [(I x64.1), (Sl a71 x64.2.1 c72), (I x64.2.2)]) Try.underlying41 rfl ti41 rfl rfl hc83) ?_
        refine st (v := (.agg #[(I x64.1), (Sl a71 x64.2.1 c72), (I x64.2.2)])) (rv_build (ps := [(0, (.agg #[(I x64.1), (Sl a71 x64.2.1 c72), (I x64.2.2)]))]) Try.underlying98 ti98 (bp98 Try.underlying98) rfl (by kernel_rfl)) ?_
        revert h; refine br fun r84 hx85 h => ?_
        have hc86 := c_impl_putChange_entry (Bt := a71) (Bu := c72) hx85
        refine st_call (cx_call hc86 (ent_f hc86.fn rfl) hn0 (H.sel' [1, 0, 1, 2, 3, 4] rfl rfl : Hp S0 σ0 _ ([_] ++ _))) wn ?_
        rintro _ σ89 ⟨_, ⟨a87, c88, rfl, rfl⟩, H, -⟩
        replace H : Hp _ _ _ [_, _, _, _, _, _] := H
        obtain ⟨σ90, hw91, H, -⟩ := H.pub 0 rfl (Nat.le_refl _)
        rw [← hw91]; clear hw91
        refine st_ex (ex_buildSlice (el := n0) (xs := ([(r84.1, (r84.2.1, r84.2.2.1, r84.2.2.2))] : List (Int × (Int × (List Int) × Int)))) (ps := [(0, (.agg #[(I r84.1), (I r84.2.1), (Sl a87 r84.2.2.1 c88), (I r84.2.2.2)]))]) (cs := [(I r84.1), (I r84.2.1), (Sl a87 r84.2.2.1 c88), (I r84.2.2.2)]) H hn0 Try.underlying23 ti43 rfl rfl (by kernel_rfl) (.cons (c := [(I r84.1), (I r84.2.1), (Sl a87 r84.2.2.1 c88), (I r84.2.2.2)]) ⟨[(I r84.1)], [(I r84.2.1), (Sl a87 r84.2.2.1 c88), (I r84.2.2.2)], rfl, rfl, ⟨[(I r84.2.1)], [(Sl a87 r84.2.2.1 c88), (I r84.2.2.2)], rfl, rfl, ⟨[(Sl a87 r84.2.2.1 c88)], [(I r84.2.2.2)], rfl, ⟨_, rfl, (H.ro 0 rfl)⟩, rfl⟩⟩⟩ (.nil)) rfl) wn ?_
        rintro _ σ93 ⟨b92, rfl, H, -⟩
        revert h; refine br fun xs94 hx95 h => ?_
        refine st_ex (ex_append H (i := 5) rfl Try.underlying23 Try.underlying23 ti43 rfl rfl (by decide) (H.own 0 rfl).rd hx95 hn0 rfl rfl) wn ?_
        rintro _ σ98 ⟨a96, c97, rfl, H, -⟩
        refine sa (Sl a96 xs94 c97) rfl (w_end (q_blk ?_))
        obtain rfl := sj h
        exact ⟨rfl, _, σ98, a96, c97, fr_join ⟨rfl, rfl, rfl, rfl, rfl, trivial⟩, rfl, H.sel' [5, 0, 6] rfl rfl⟩
       ·replace h := bif_f hb82 h
        refine c_skip (q_blk ?_)
        obtain rfl := sj h
        exact ⟨rfl, _, σ81, a60, c61, fr_join ⟨rfl, rfl, rfl, rfl, rfl, trivial⟩, rfl, H.sel' [2, 3, 4] rfl rfl⟩
      ·clear hj
       have h := h'
       clear h' H
       rintro e a w ⟨rfl, ρ, σ99, a100, c101, rfl, rfl, H⟩
       refine q_then (rg (st (v := (I (w64 (s58.2 + 1)))) (rv_add (a := s58.2) (b := 1) rfl rfl) (sm (I (w64 (s58.2 + 1))) rfl (w_end (q_then ?_)))))
       obtain rfl := sj h
       exact ⟨_, rfl, _, σ99, a100, c101, fr_join ⟨rfl, rfl, rfl, rfl, rfl, trivial⟩, rfl, H.sel' [0, 1, 2] rfl rfl⟩
     ·replace h := bif_f hb62 h
      refine c_exit (q_then_x (q_then_x (q_blk_hit ?_)))
      obtain rfl := sj h
      obtain rfl := hres _ rfl
      exact ⟨rfl, _, σ59, a60, c61, fr_join ⟨rfl, trivial⟩, rfl, H.sel' [1] rfl rfl⟩
    ·clear hj
     have h := h'
     clear h' H
     rintro e a w ⟨rfl, ρ, σ102, a103, c104, rfl, rfl, H⟩
     refine q_then (c_seq (rg (sm (Sl a103 o57 c104) rfl (sa (Sl a103 o57 c104) rfl (w_end (q_then (c_ret ?_)))))))
     obtain rfl := sj h
     exact fin_ret (v := (Sl a103 o57 c104)) (results_ok Try.results39 (res_tmp (v := (Sl a103 o57 c104)) rfl res_nil) rfl) ⟨a103, c104, rfl, rfl⟩ (H.sel' [0] rfl rfl)

theorem c_laws_FnStoreAtLog {Do : List UInt8} {Dq : Option Addr} {Dr : Nat} {r : Bool} (h : M.laws_FnStoreAtLog Do = some r) :
    Cal2 Try.prog 12 [(Sl Dq Do Dr)] [Ch.ro 0 (Sl Dq Do Dr) Do] (fun n0 v L => v = (B r) ∧ L = []) := by
 refine cal2 (n := 81) Try.func12 rfl rfl rfl rfl ?_
 intro S0 σ0 n0 hn0 H
 unfold M.laws_FnStoreAtLog at h
 refine c_seq (rg (sa (B false) rfl (w_end (q_then (c_seq (c_seq (rg (sm (Sl Dq Do Dr) rfl (st (v := (I (Do.length : Int))) (rv_len Try.underlying22 rfl) (st (v := (B (decide (1048576 < (Do.length : Int))))) (rv_gtr (a := (Do.length : Int)) (b := 1048576) rfl rfl) (w_end ?_)))))))))))
 refine q_then ?_
 refine cd_cond (decide (1048576 < (Do.length : Int))) rfl (fun hb1 => ?_) (fun hb1 => ?_)
 ·replace h := bif_t hb1 h
  refine c_seq (rg (sa (B true) rfl (w_end (q_then (c_ret (q_then_r ?_))))))
  obtain rfl := sj h
  exact fin_ret (v := (B true)) (results_ok Try.results12 (res_tmp (v := (B true)) rfl res_nil) rfl) ⟨rfl, rfl⟩ (H.sel' [] rfl rfl)
 ·replace h := bif_f hb1 h
  refine c_skip (q_then (c_seq (rg (sm (Sl Dq Do Dr) rfl ?_))))
  revert h; refine br fun r2 hx3 h => ?_
  have hc4 := c_spec_DrawChangedKeys (Dq := Dq) (Dr := Dr) hx3
  refine st_call (cx_call hc4 (ent_f hc4.fn rfl) hn0 (H.sel' [0, 0] rfl rfl : Hp S0 σ0 _ ([_] ++ _))) wn ?_
  rintro _ σ9 ⟨_, ⟨a5, c6, a7, c8, rfl, rfl⟩, H, -⟩
  replace H : Hp _ _ _ [_, _, _] := H
  refine sm (.tuple #[(.agg #[(Sl a5 r2.1.1 c6), (Sl a7 r2.1.2 c8)]), (I r2.2.1), (I r2.2.2)]) rfl (st (v := (.agg #[(Sl a5 r2.1.1 c6), (Sl a7 r2.1.2 c8)])) (rv_extract rfl rfl) (st (v := (I r2.2.1)) (rv_extract rfl rfl) (st (v := (I r2.2.2)) (rv_extract rfl rfl) (st_ex (ex_alloc (cs := [(.slice none 0 0), (.slice none 0 0)]) H hn0 ti26 rfl) wn ?_))))
  rintro _ σ11 ⟨b10, rfl, H, -⟩
  refine st_exS (ex_store_box (k := 0) (cs := [(.slice none 0 0), (.slice none 0 0)]) (vs := [(Sl a5 r2.1.1 c6), (Sl a7 r2.1.2 c8)]) (cs' := [(Sl a5 r2.1.1 c6), (Sl a7 r2.1.2 c8)]) H (i := 0) rfl ti26 rfl rfl rfl rfl rfl (Nat.le_of_ble_eq_true rfl) (by simp [plain]) rfl) wn ?_
  rintro σ12 ⟨H, -⟩
  refine sa (I r2.2.1) rfl (sa (I r2.2.2) rfl (w_end (q_then (c_seq (rg ?_)))))
  have hc13 := H.cells 0 rfl
  refine st (v := (.agg #[(Sl a5 r2.1.1 c6), (Sl a7 r2.1.2 c8)])) (rv_load (cs := [(Sl a5 r2.1.1 c6), (Sl a7 r2.1.2 c8)]) Try.underlying26 rfl ti26 rfl rfl hc13) (sm (I r2.2.1) rfl (sm (I r2.2.2) rfl ?_))
  replace H := H.roLow 1 0 rfl (Nat.zero_le _)
  replace H := H.roLow 3 0 rfl (Nat.zero_le _)
  revert h; refine br fun r14 hx15 h => ?_
  have hc16 := c_impl_ChangedKeys (Cd := a5) (Ce := c6) (Cf := a7) (Cg := c8) hx15
  refine st_call (cx_call hc16 (ent_f hc16.fn rfl) hn0 (H.sel' [1, 0, 0, 1, 2, 3, 4, 5] rfl rfl : Hp S0 σ0 _ ([_, _] ++ _))) wn ?_
  rintro _ σ19 ⟨_, ⟨a17, c18, rfl, rfl⟩, H, -⟩
  replace H : Hp _ _ _ [_, _, _, _, _, _, _] := H
  refine sa (Sl a17 r14 c18) rfl (w_end (q_then (c_seq (c_seq ?_))))
  obtain ⟨o20, hj, h'⟩ := bind_some h
  clear h
  refine c_cut (fun e a w => e = .normal ∧ ∃ (ρ : Nat → Value) (σ : St), a = fr 81 (updL ρ [(3, (pt b10 0)), (4, (I r2.2.1)), (5, (I r2.2.2)), (6, (Sl a17 r14 c18)), (51, (B o20))]) ∧ w = σ.w ∧ Hp S0 σ0 σ [Ch.ro n0 (Sl a5 r2.1.1 c6) r2.1.1, Ch.ro n0 (Sl a7 r2.1.2 c8) r2.1.2, Ch.bx n0 b10 0 [(Sl a5 r2.1.1 c6), (Sl a7 r2.1.2 c8)] [] [], Ch.own 0 n0 (Sl a17 r14 c18) r14]) ?_ ?_
  ·clear h'
   rename _ = some o20 => h
   refine rg (sm (Sl a17 r14 c18) rfl ?_)
   have hc21 := H.cells 3 rfl
   refine st (v := (.agg #[(Sl a5 r2.1.1 c6), (Sl a7 r2.1.2 c8)])) (rv_load (cs := [(Sl a5 r2.1.1 c6), (Sl a7 r2.1.2 c8)]) Try.underlying26 rfl ti26 rfl rfl hc21) (sm (I r2.2.1) rfl (sm (I r2.2.2) rfl ?_))
   replace H := H.roLow 4 0 rfl (Nat.zero_le _)
   replace H := H.roLow 6 0 rfl (Nat.zero_le _)
   revert h; refine br fun r22 hx23 h => ?_
   have hc24 := c_spec_ChangedKeys (Cd := a5) (Ce := c6) (Cf := a7) (Cg := c8) hx23
   refine st_call (cx_call hc24 (ent_f hc24.fn rfl) hn0 (H.sel' [1, 0, 0, 1, 2, 3, 4, 5, 6, 7, 8] rfl rfl : Hp S0 σ0 _ ([_, _] ++ _))) wn ?_
   rintro _ σ27 ⟨_, ⟨a25, c26, rfl, rfl⟩, H, -⟩
   replace H : Hp _ _ _ [_, _, _, _, _, _, _, _, _, _] := H
   replace H : Hp S0 σ0 σ27 [Ch.own n0 n0 (Sl a25 r22 c26) r22, Ch.own 0 n0 (Sl a17 r14 c18) r14, Ch.bx n0 b10 0 [(Sl a5 r2.1.1 c6), (Sl a7 r2.1.2 c8)] [] [], Ch.ro n0 (Sl a5 r2.1.1 c6) r2.1.1, Ch.ro n0 (Sl a7 r2.1.2 c8) r2.1.2] := H.sel' [0, 3, 6, 7, 8] rfl rfl
   obtain ⟨σ28, hw29, H, -⟩ := H.pub 0 rfl (Nat.le_refl _)
   rw [← hw29]; clear hw29
   replace H := H.roLow 0 0 rfl (Nat.zero_le _)
   revert h; refine br fun r30 hx31 h => ?_
   have hc32 := c_laws_equalInts (Ct := a17) (Cu := c18) (Cv := a25) (Cw := c26) hx31
   have hle := Nat.le_trans hn0 H.size
   refine st_call (cx_lend (Loan.lend (Loan.same Loan.nil)) hc32 (ent_f hc32.fn rfl) (show Hp S0 σ0 _ ([Ch.own 0 n0 (Sl a17 r14 c18) r14] ++ ([Ch.ro 0 (Sl a25 r22 c26) r22] ++ [Ch.ro 0 (Sl a25 r22 c26) r22, Ch.ro n0 (Sl a25 r22 c26) r22, Ch.bx n0 b10 0 [(Sl a5 r2.1.1 c6), (Sl a7 r2.1.2 c8)] [] [], Ch.ro n0 (Sl a5 r2.1.1 c6) r2.1.1, Ch.ro n0 (Sl a7 r2.1.2 c8) r2.1.2])) from (H.sel' [2, 0, 0, 1, 3, 4, 5] rfl rfl)) (by rintro _ _ _ ⟨rfl, rfl⟩; exact trivial)) wn ?_
   rintro _ σ33 ⟨_, ⟨rfl, rfl⟩, H, -, -⟩
   replace H : Hp _ _ _ [_, _, _, _, _, _] := H
   clear hle
   replace H : Hp _ _ _ [_, _, _, _, _, _] := H
   refine st (v := (B (!r30))) (rv_not rfl) (sm (B (!r30)) rfl ?_)
   rcases Bool.eq_false_or_eq_true (!r30) with hb34 | hb34
   ·replace h := bif_t hb34 h
    refine st_skip (congrArg some hb34) (st_skip (congrArg some hb34) (st_skip (congrArg some hb34) (st (v := (B true)) (rv_pick_t (congrArg B hb34) rfl) (sm (B true) rfl (st_skip rfl (st_skip rfl (st (v := (B true)) (rv_pick_t rfl rfl) (sm (B true) rfl (st_skip rfl (st_skip rfl (st (v := (B true)) (rv_pick_t rfl rfl) ?_)))))))))))
    refine sm (B true) rfl (st_skip rfl (st_skip rfl (st (v := (B true)) (rv_pick_t rfl rfl) (sm (B true) rfl (st_skip rfl (st_skip rfl (st (v := (B true)) (rv_pick_t rfl rfl) (w_end ?_))))))))
    obtain rfl := sj h
    exact ⟨rfl, _, σ33, fr_join ⟨rfl, rfl, rfl, rfl, rfl, trivial⟩, rfl, H.sel' [4, 5, 3, 0] rfl rfl⟩
   ·replace h := bif_f hb34 h
    have hc35 := H.cells 3 rfl
    refine st_g (v := (.agg #[(Sl a5 r2.1.1 c6), (Sl a7 r2.1.2 c8)])) (congrArg some hb34) (rv_load (cs := [(Sl a5 r2.1.1 c6), (Sl a7 r2.1.2 c8)]) Try.underlying26 rfl ti26 rfl rfl hc35) ?_
    replace H := H.roLow 4 0 rfl (Nat.zero_le _)
    replace H := H.roLow 6 0 rfl (Nat.zero_le _)
    revert h; refine br fun r36 hx37 h => ?_
    have hc38 := c_impl_ValidHistory (Cd := a5) (Ce := c6) (Cf := a7) (Cg := c8) hx37
    refine st_call (cx_call hc38 (ent_f hc38.fn rfl) hn0 (H.sel' [1, 0, 0, 1, 2, 3, 4, 5, 6, 7] rfl rfl : Hp S0 σ0 _ ([_, _] ++ _))) (wanted_yes rfl (by exact (congrArg some hb34))) ?_
    rintro _ σ39 ⟨_, ⟨rfl, rfl⟩, H, -⟩
    replace H : Hp _ _ _ [_, _, _, _, _, _, _, _] := H
    replace H : Hp S0 σ0 σ39 [Ch.own 0 n0 (Sl a17 r14 c18) r14, Ch.bx n0 b10 0 [(Sl a5 r2.1.1 c6), (Sl a7 r2.1.2 c8)] [] [], Ch.ro n0 (Sl a5 r2.1.1 c6) r2.1.1, Ch.ro n0 (Sl a7 r2.1.2 c8) r2.1.2] := H.sel' [2, 5, 6, 7] rfl rfl
    refine st_g (v := (B (!r36))) (congrArg some hb34) (rv_not rfl) (st (v := (B (!r36))) (rv_pick_f (congrArg B hb34) rfl) (sm (B (!r36)) rfl ?_))
    rcases Bool.eq_false_or_eq_true (!r36) with hb40 | hb40
    ·replace h := bif_t hb40 h
     refine st_skip (congrArg some hb40) (st_skip (congrArg some hb40) (st (v := (B true)) (rv_pick_t (congrArg B hb40) rfl) (sm (B true) rfl (st_skip rfl (st_skip rfl (st (v := (B true)) (rv_pick_t rfl rfl) (sm (B true) rfl (st_skip rfl (st_skip rfl (st (v := (B true)) (rv_pick_t rfl rfl) (sm (B true) rfl ?_)))))))))))
     refine st_skip rfl (st_skip rfl (st (v := (B true)) (rv_pick_t rfl rfl) (w_end ?_)))
     obtain rfl := sj h
     exact ⟨rfl, _, σ39, fr_join ⟨rfl, rfl, rfl, rfl, rfl, trivial⟩, rfl, H.sel' [2, 3, 1, 0] rfl rfl⟩
    ·replace h := bif_f hb40 h
     refine st_g (v := (I r2.2.1)) (congrArg some hb40) (rv_move rfl) (st_g (v := (B (decide (r2.2.1 < 0)))) (congrArg some hb40) (rv_lss (a := r2.2.1) (b := 0) rfl rfl) (st (v := (B (decide (r2.2.1 < 0)))) (rv_pick_f (congrArg B hb40) rfl) (sm (B (decide (r2.2.1 < 0))) rfl ?_)))
     rcases Bool.eq_false_or_eq_true (decide (r2.2.1 < 0)) with hb41 | hb41
     ·replace h := bif_t hb41 h
      refine st_skip (congrArg some hb41) (st_skip (congrArg some hb41) (st (v := (B true)) (rv_pick_t (congrArg B hb41) rfl) (sm (B true) rfl (st_skip rfl (st_skip rfl (st (v := (B true)) (rv_pick_t rfl rfl) (sm (B true) rfl (st_skip rfl (st_skip rfl (st (v := (B true)) (rv_pick_t rfl rfl) (w_end ?_)))))))))))
      obtain rfl := sj h
      exact ⟨rfl, _, σ39, fr_join ⟨rfl, rfl, rfl, rfl, rfl, trivial⟩, rfl, H.sel' [2, 3, 1, 0] rfl rfl⟩
     ·replace h := bif_f hb41 h
      refine st_g (v := (I r2.2.1)) (congrArg some hb41) (rv_move rfl) (st_g (v := (B (decide (1000 < r2.2.1)))) (congrArg some hb41) (rv_gtr (a := r2.2.1) (b := 1000) rfl rfl) (st (v := (B (decide (1000 < r2.2.1)))) (rv_pick_f (congrArg B hb41) rfl) (sm (B (decide (1000 < r2.2.1))) rfl ?_)))
      rcases Bool.eq_false_or_eq_true (decide (1000 < r2.2.1)) with hb42 | hb42
      ·replace h := bif_t hb42 h
       refine st_skip (congrArg some hb42) (st_skip (congrArg some hb42) (st (v := (B true)) (rv_pick_t (congrArg B hb42) rfl) (sm (B true) rfl (st_skip rfl (st_skip rfl (st (v := (B true)) (rv_pick_t rfl rfl) (w_end ?_)))))))
       obtain rfl := sj h
       exact ⟨rfl, _, σ39, fr_join ⟨rfl, rfl, rfl, rfl, rfl, trivial⟩, rfl, H.sel' [2, 3, 1, 0] rfl rfl⟩
      ·replace h := bif_f hb42 h
       refine st_g (v := (I r2.2.2)) (congrArg some hb42) (rv_move rfl) (st_g (v := (B (decide (r2.2.2 < 0)))) (congrArg some hb42) (rv_lss (a := r2.2.2) (b := 0) rfl rfl) (st (v := (B (decide (r2.2.2 < 0)))) (rv_pick_f (congrArg B hb42) rfl) (sm (B (decide (r2.2.2 < 0))) rfl ?_)))
       rcases Bool.eq_false_or_eq_true (decide (r2.2.2 < 0)) with hb43 | hb43
       ·replace h := bif_t hb43 h
        refine st_skip (congrArg some hb43) (st_skip (congrArg some hb43) (st (v := (B true)) (rv_pick_t (congrArg B hb43) rfl) (w_end ?_)))
        obtain rfl := sj h
        exact ⟨rfl, _, σ39, fr_join ⟨rfl, rfl, rfl, rfl, rfl, trivial⟩, rfl, H.sel' [2, 3, 1, 0] rfl rfl⟩
       ·replace h := bif_f hb43 h
        refine st_g (v := (I r2.2.2)) (congrArg some hb43) (rv_move rfl) (st_g (v := (B (decide (1000 < r2.2.2)))) (congrArg some hb43) (rv_gtr (a := r2.2.2) (b := 1000) rfl rfl) (st (v := (B (decide (1000 < r2.2.2)))) (rv_pick_f (congrArg B hb43) rfl) (w_end ?_)))
        obtain rfl := sj h
        exact ⟨rfl, _, σ39, fr_join ⟨rfl, rfl, rfl, rfl, rfl, trivial⟩, rfl, H.sel' [2, 3, 1, 0] rfl rfl⟩
  ·clear hj
   have h := h'
   clear h' H
   rintro e a w ⟨rfl, ρ, σ44, rfl, rfl, H⟩
   refine q_then ?_
   refine cd_cond o20 rfl (fun hb45 => ?_) (fun hb45 => ?_)
   ·replace h := bif_t hb45 h
    refine c_seq (rg (sm (Sl a17 r14 c18) rfl ?_))
    have hc46 := H.cells 2 rfl
    refine st (v := (.agg #[(Sl a5 r2.1.1 c6), (Sl a7 r2.1.2 c8)])) (rv_load (cs := [(Sl a5 r2.1.1 c6), (Sl a7 r2.1.2 c8)]) Try.underlying26 rfl ti26 rfl rfl hc46) (sm (I r2.2.1) rfl (sm (I r2.2.2) rfl ?_))
    replace H := H.roLow 0 0 rfl (Nat.zero_le _)
    replace H := H.roLow 2 0 rfl (Nat.zero_le _)
    revert h; refine br fun r47 hx48 h => ?_
    have hc49 := c_spec_ChangedKeys (Cd := a5) (Ce := c6) (Cf := a7) (Cg := c8) hx48
    refine st_call (cx_call hc49 (ent_f hc49.fn rfl) hn0 (H.sel' [1, 0, 0, 1, 2, 3, 4, 5] rfl rfl : Hp S0 σ0 _ ([_, _] ++ _))) wn ?_
    rintro _ σ52 ⟨_, ⟨a50, c51, rfl, rfl⟩, H, -⟩
    replace H : Hp _ _ _ [_, _, _, _, _, _, _] := H
    replace H := H.ownLow 6 0 0 rfl (Nat.le_refl _) (Nat.zero_le _)
    obtain ⟨σ53, hw54, H, -⟩ := H.pub 0 rfl (Nat.le_refl _)
    rw [← hw54]; clear hw54
    obtain ⟨σ55, hw56, H, -⟩ := H.pub 1 rfl (Nat.le_refl _)
    rw [← hw56]; clear hw56
    replace H := H.roLow 0 0 rfl (Nat.zero_le _)
    revert h; refine br fun r57 hx58 h => ?_
    have hc59 := c_laws_equalInts (Ct := a17) (Cu := c18) (Cv := a50) (Cw := c51) hx58
    refine st_call (cx_call hc59 (ent_f hc59.fn rfl) hn0 (H.sel' [2, 0, 0, 1, 2, 3, 4, 5, 6, 7] rfl rfl : Hp S0 σ0 _ ([_, _] ++ _))) wn ?_
    rintro _ σ60 ⟨_, ⟨rfl, rfl⟩, H, -⟩
    replace H : Hp _ _ _ [_, _, _, _, _, _, _, _] := H
    replace H : Hp S0 σ0 σ60 [] := H.sel' [] rfl rfl
    refine sa (B r57) rfl (w_end (q_then (c_ret (q_then_r ?_))))
    obtain rfl := sj h
    exact fin_ret (v := (B r57)) (results_ok Try.results12 (res_tmp (v := (B r57)) rfl res_nil) rfl) ⟨rfl, rfl⟩ (H.sel' [] rfl rfl)
   ·replace h := bif_f hb45 h
    refine c_skip (q_then (c_seq (rg ?_)))
    have hc61 := H.cells 2 rfl
    refine st (v := (.agg #[(Sl a5 r2.1.1 c6), (Sl a7 r2.1.2 c8)])) (rv_load (cs := [(Sl a5 r2.1.1 c6), (Sl a7 r2.1.2 c8)]) Try.underlying26 rfl ti26 rfl rfl hc61) (sm (I r2.2.1) rfl ?_)
    replace H := H.roLow 0 0 rfl (Nat.zero_le _)
    replace H := H.roLow 2 0 rfl (Nat.zero_le _)
    revert h; refine br fun r62 hx63 h => ?_
    have hc64 := c_impl_StoreAt (Cd := a5) (Ce := c6) (Cf := a7) (Cg := c8) hx63
    refine st_call (cx_call hc64 (ent_f hc64.fn rfl) hn0 (H.sel' [1, 0, 0, 1, 2, 3, 4, 5] rfl rfl : Hp S0 σ0 _ ([_, _] ++ _))) wn ?_
    rintro _ σ67 ⟨_, ⟨a65, c66, rfl, rfl⟩, H, -⟩
    replace H : Hp _ _ _ [_, _, _, _, _, _, _] := H
    refine sa (Sl a65 r62 c66) rfl (w_end (q_then (c_seq (rg ?_))))
    have hc68 := H.cells 5 rfl
    refine st (v := (.agg #[(Sl a5 r2.1.1 c6), (Sl a7 r2.1.2 c8)])) (rv_load (cs := [(Sl a5 r2.1.1 c6), (Sl a7 r2.1.2 c8)]) Try.underlying26 rfl ti26 rfl rfl hc68) (sm (I r2.2.2) rfl ?_)
    replace H := H.roLow 3 0 rfl (Nat.zero_le _)
    replace H := H.roLow 5 0 rfl (Nat.zero_le _)
    revert h; refine br fun r69 hx70 h => ?_
    have hc71 := c_impl_StoreAt (Cd := a5) (Ce := c6) (Cf := a7) (Cg := c8) hx70
    refine st_call (cx_call hc71 (ent_f hc71.fn rfl) hn0 (H.sel' [1, 0, 0, 1, 2, 3, 4, 5, 6, 7, 8] rfl rfl : Hp S0 σ0 _ ([_, _] ++ _))) wn ?_
    rintro _ σ74 ⟨_, ⟨a72, c73, rfl, rfl⟩, H, -⟩
    replace H : Hp _ _ _ [_, _, _, _, _, _, _, _, _, _] := H
    replace H : Hp S0 σ0 σ74 [Ch.own 0 0 (Sl a72 r69 c73) r69, Ch.own 0 0 (Sl a65 r62 c66) r62, Ch.own 0 n0 (Sl a17 r14 c18) r14] := H.sel' [0, 3, 9] rfl rfl
    refine sa (Sl a72 r69 c73) rfl (w_end (q_then (c_seq (rg (sm (Sl a65 r62 c66) rfl (sm (Sl a65 r62 c66) rfl (sm (Sl a72 r69 c73) rfl ?_)))))))
    revert h; refine br fun r75 hx76 h => ?_
    have hc77 := c_impl_LogBetween (Ct := a65) (Cu := c66) (Cv := a72) (Cw := c73) hx76
    have hle := Nat.le_trans hn0 H.size
    refine st_call (cx_lend (Loan.lend (Loan.lend Loan.nil)) hc77 (ent_f hc77.fn rfl) (show Hp S0 σ0 _ ([Ch.own 0 0 (Sl a65 r62 c66) r62, Ch.own 0 0 (Sl a72 r69 c73) r69] ++ ([] ++ [Ch.own 0 n0 (Sl a17 r14 c18) r14])) from (H.sel' [1, 0, 2] rfl rfl)) (by rintro _ _ _ ⟨_, _, rfl, rfl⟩; exact ⟨Ab.own (Nat.le_refl _), trivial⟩)) wn ?_
    rintro _ σ80 ⟨_, ⟨a78, c79, rfl, rfl⟩, H, -, -⟩
    replace H : Hp _ _ _ [_, _, _, _] := H
    replace H := H.ownLow 0 n0 n0 rfl hle hle
    clear hle
    replace H : Hp _ _ _ [_, _, _, _] := H
    obtain ⟨σ81, hw82, H, -⟩ := H.pub 1 rfl (Nat.le_refl _)
    rw [← hw82]; clear hw82
    obtain ⟨σ83, hw84, H, -⟩ := H.pub 1 rfl (Nat.le_refl _)
    rw [← hw84]; clear hw84
    replace H := H.roLow 0 0 rfl (Nat.zero_le _)
    revert h; refine br fun r85 hx86 h => ?_
    have hc87 := c_impl_ReplayLog (Ap := a65) (Aq := c66) (Bw := a78) (By := c79) hx86
    refine st_call (cx_call hc87 (ent_f hc87.fn rfl) hn0 (H.sel' [2, 0, 0, 1, 2, 3, 4] rfl rfl : Hp S0 σ0 _ ([_, _] ++ _))) wn ?_
    rintro _ σ90 ⟨_, ⟨a88, c89, rfl, rfl⟩, H, -⟩
    replace H : Hp _ _ _ [_, _, _, _, _, _] := H
    refine sm (.tuple #[(Sl a88 r85.1 c89), (I r85.2)]) rfl (st (v := (Sl a88 r85.1 c89)) (rv_extract rfl rfl) (st (v := (I r85.2)) (rv_extract rfl rfl) (sa (Sl a88 r85.1 c89) rfl (sa (I r85.2) rfl (w_end (q_then (c_seq (rg (sm (I r85.2) rfl (sm (Sl a17 r14 c18) rfl (st (v := (I (r14.length : Int))) (rv_len Try.underlying24 rfl) ?_)))))))))))
    refine st (v := (B (r85.2 == (r14.length : Int)))) (rv_eql (a := r85.2) (b := (r14.length : Int)) rfl rfl) (sm (B (r85.2 == (r14.length : Int))) rfl ?_)
    rcases Bool.eq_false_or_eq_true (r85.2 == (r14.length : Int)) with hb91 | hb91
    ·replace h := bif_t hb91 h
     refine st_g (v := (Sl a88 r85.1 c89)) (congrArg some hb91) (rv_move rfl) (st_g (v := (Sl a72 r69 c73)) (congrArg some hb91) (rv_move rfl) ?_)
     obtain ⟨σ92, hw93, H, -⟩ := H.pub 4 rfl (Nat.le_refl _)
     rw [← hw93]; clear hw93
     revert h; refine br fun r94 hx95 h => ?_
     have hc96 := c_laws_equalItems (Ct := a88) (Cu := c89) (Cv := a72) (Cw := c73) hx95
     refine st_call (cx_call hc96 (ent_f hc96.fn rfl) hn0 (H.sel' [1, 0, 0, 1, 2, 3, 4, 5] rfl rfl : Hp S0 σ0 _ ([_, _] ++ _))) (wanted_yes rfl (by exact (congrArg some hb91))) ?_
     rintro _ σ97 ⟨_, ⟨rfl, rfl⟩, H, -⟩
     replace H : Hp _ _ _ [_, _, _, _, _, _] := H
     refine st (v := (B r94)) (rv_pick_t (congrArg B hb91) rfl) (sa (B r94) rfl (w_end (q_then (c_ret ?_))))
     obtain rfl := sj h
     exact fin_ret (v := (B r94)) (results_ok Try.results12 (res_tmp (v := (B r94)) rfl res_nil) rfl) ⟨rfl, rfl⟩ (H.sel' [] rfl rfl)
    ·replace h := bif_f hb91 h
     refine st_skip (congrArg some hb91) (st_skip (congrArg some hb91) (st_skip (congrArg some hb91) (st (v := (B false)) (rv_pick_f (congrArg B hb91) rfl) (sa (B false) rfl (w_end (q_then (c_ret ?_)))))))
     obtain rfl := sj h
     exact fin_ret (v := (B false)) (results_ok Try.results12 (res_tmp (v := (B false)) rfl res_nil) rfl) ⟨rfl, rfl⟩ (H.sel' [] rfl rfl)

end Go.Vs
