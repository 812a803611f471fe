/- The functions compute what their models say. -/
import Derived.Test.YtefojfippfoppaaGreatKExactTreeNearestC2
set_option linter.unusedVariables false
set_option linter.unusedSimpArgs false
set_option maxRecDepth 20000
namespace Go.Vs
open Go Go.Proofs
attribute [local irreducible] Code.wp Code.wpIn wpList wpListIn wpQuiet Calls CallsIn

theorem c_slices_SortedFunc_impl_Hit__slices_Values_impl_hitHeap_impl_Hit_1__impl_compareHits {Ej : List (Int × Int)} {Ek : Option Addr} {El : Nat} {Em En Eo : Nat} {Ep Er : List Value} {r : (List (Int × Int))} (h : M.slices_SortedFunc_impl_Hit__slices_Values_impl_hitHeap_impl_Hit_1__impl_compareHits Ej = some r) :
    Cal2 Tryz.prog 70 [(.func (.func 98) #[] #[(pt En Eo)]), (.func (.func 72) #[] #[])] [Ch.bx Em En Eo [(Sl Ek Ej El)] Ep Er, Ch.ro 0 (Sl Ek Ej El) Ej] (fun n0 v L => ∃ (az1 : Option Addr), ∃ (cz2 : Nat), v = (Sl az1 r cz2) ∧ L = [Ch.own 0 n0 (Sl az1 r cz2) r, Ch.bx Em En Eo [(Sl Ek Ej El)] Ep Er]) := by
 refine cal2 (n := 12) Tryz.func70 rfl rfl rfl rfl ?_
 intro S0 σ0 n0 hn0 H
 unfold M.slices_SortedFunc_impl_Hit__slices_Values_impl_hitHeap_impl_Hit_1__impl_compareHits at h
 refine c_seq (rg (sa (.slice none 0 0) rfl (w_end (q_then (c_seq (rg (sm (.func (.func 98) #[] #[(pt En Eo)]) rfl ?_)))))))
 revert h; refine br fun r1 hx2 h => ?_
 have hc3 := c_slices_Collect_impl_Hit__slices_Values_impl_hitHeap_impl_Hit_1 (Em := Em) (En := En) (Eo := Eo) (Ep := Ep) (Er := Er) (Ek := Ek) (El := El) hx2
 refine st_call (cx_call hc3 (ent_f hc3.fn rfl) hn0 (H.sel' [0, 1, 1] rfl rfl : Hp S0 σ0 _ ([_, _] ++ _))) wn ?_
 rintro _ σ6 ⟨_, ⟨a4, c5, rfl, rfl⟩, H, -⟩
 replace H : Hp _ _ _ [_, _, _] := H
 refine sa (Sl a4 r1 c5) rfl (w_end (q_then (c_seq (rg (sm (Sl a4 r1 c5) rfl (sm (.func (.func 72) #[] #[]) rfl ?_))))))
 replace H := H.ownLow 0 0 0 rfl (Nat.zero_le _) (Nat.zero_le _)
 revert h; refine br fun r7 hx8 h => ?_
 have hc9 := c_slices_SortFunc_impl_Hit_impl_Hit__impl_compareHits (Dm := a4) (Dn := c5) hx8
 refine st_call (cx_call hc9 (ent_f hc9.fn rfl) hn0 (H.sel' [0, 1, 2] rfl rfl : Hp S0 σ0 _ ([_] ++ _))) wn ?_
 rintro _ σ11 ⟨_, ⟨rfl, rfl, hn10⟩, H, -⟩
 replace H : Hp _ _ _ [_, _, _] := H
 have hsl : (Sl a4 r1 c5) = (Sl a4 r7 c5) := sl_len hn10.symm
 try rw [hsl]
 try rw [hsl] at H
 clear hsl
 refine w_end (q_then (c_seq (rg (sm (Sl a4 r7 c5) rfl (sa (Sl a4 r7 c5) rfl (w_end (q_then (c_ret ?_))))))))
 replace H := H.ownSc 0 0 n0 rfl (Nat.le_refl _)
 obtain rfl := sj h
 exact fin_ret (v := (Sl a4 r7 c5)) (results_ok Tryz.results70 (res_tmp (v := (Sl a4 r7 c5)) rfl res_nil) rfl) ⟨a4, c5, rfl, rfl⟩ (H.sel' [0, 1] rfl rfl)

theorem c_impl_nearestHits_inOrder {Bz : Int × (List (Int × Int))} {Cb : Option Addr} {Cc : Nat} {Cd Ce Cf : Nat} {Cg Ci : List Value} {r : (List (Int × Int))} (h : M.impl_nearestHits_inOrder Bz = some r) :
    Cal2 Tryz.prog 35 [(pt Ce Cf)] [Ch.bx Cd Ce Cf [(I Bz.1), (Sl Cb Bz.2 Cc)] Cg Ci, Ch.ro 0 (Sl Cb Bz.2 Cc) Bz.2] (fun n0 v L => ∃ (az1 : Option Addr), ∃ (cz2 : Nat), v = (Sl az1 r cz2) ∧ L = [Ch.own 0 n0 (Sl az1 r cz2) r, Ch.bx Cd Ce Cf [(I Bz.1), (Sl Cb Bz.2 Cc)] Cg Ci]) := by
 refine cal2 (n := 9) Tryz.func35 rfl rfl rfl rfl ?_
 intro S0 σ0 n0 hn0 H
 unfold M.impl_nearestHits_inOrder at h
 refine c_seq (rg (sa (.slice none 0 0) rfl (w_end (q_then (c_seq (rg (sm (pt Ce Cf) rfl (st (v := (pt Ce Cf)) (rv_nilCheck rfl) (st (v := (pt Ce (Cf + 1))) (rv_fieldAddr (off := 1) (ft := 51) Tryz.underlying53 rfl ti51 rfl rfl) ?_)))))))))
 have hc1 := H.cell (u := (Sl Cb Bz.2 Cc)) (o' := (Cf + 1)) 0 1 rfl rfl rfl
 refine st (v := (Sl Cb Bz.2 Cc)) (rv_load1 Tryz.underlying51 rfl rfl hc1) ?_
 revert h; refine br fun r2 hx3 h => ?_
 have hc4 := c_slices_Values_impl_hitHeap_impl_Hit (Cq := Cb) (Cr := Cc) hx3
 refine st_call (cx_call hc4 (ent_f hc4.fn rfl) hn0 (H.sel' [1, 0, 1] rfl rfl : Hp S0 σ0 _ ([_] ++ _))) wn ?_
 rintro _ σ6 ⟨_, ⟨b5, rfl, rfl⟩, H, -⟩
 replace H : Hp _ _ _ [_, _, _] := H
 revert h; refine br fun r7 hx8 h => ?_
 have hc9 := c_slices_SortedFunc_impl_Hit__slices_Values_impl_hitHeap_impl_Hit_1__impl_compareHits (Em := n0) (En := b5) (Eo := 0) (Ep := []) (Er := []) (Ek := Cb) (El := Cc) hx8
 refine st_call (cx_call hc9 (ent_f hc9.fn rfl) hn0 (H.sel' [0, 2, 1, 2] rfl rfl : Hp S0 σ0 _ ([_, _] ++ _))) wn ?_
 rintro _ σ12 ⟨_, ⟨a10, c11, rfl, rfl⟩, H, -⟩
 replace H : Hp _ _ _ [_, _, _, _] := H
 refine sa (Sl a10 r7 c11) rfl (w_end (q_then (c_ret ?_)))
 obtain rfl := sj h
 exact fin_ret (v := (Sl a10 r7 c11)) (results_ok Tryz.results35 (res_tmp (v := (Sl a10 r7 c11)) rfl res_nil) rfl) ⟨a10, c11, rfl, rfl⟩ (H.sel' [0, 2] rfl rfl)

theorem c_impl_TreeNearest {Aj : List (Int × (List Int) × Int)} {Ao : Int} {Ap : List Int} {Aq : Int} {Ak : Option Addr} {Am : Nat} {Ar : Option Addr} {As : Nat} {r : (List (Int × Int))} (h : M.impl_TreeNearest Aj Ao Ap Aq = some r) :
    Cal2 Tryz.prog 9 [(Sl Ak Aj Am), (I Ao), (Sl Ar Ap As), (I Aq)] [Ch.ro 0 (Sl Ak Aj Am) Aj, Ch.ro 0 (Sl Ar Ap As) Ap] (fun n0 v L => ∃ (az1 : Option Addr), ∃ (cz2 : Nat), v = (Sl az1 r cz2) ∧ L = [Ch.own 0 n0 (Sl az1 r cz2) r]) := by
 refine cal2 (n := 33) Tryz.func9 rfl rfl rfl rfl ?_
 intro S0 σ0 n0 hn0 H
 unfold M.impl_TreeNearest at h
 refine c_seq (rg (sa (.slice none 0 0) rfl (w_end (q_then (c_seq (c_seq ?_))))))
 obtain ⟨o1, hj, h'⟩ := bind_some h
 clear h
 refine c_cut (fun e a w => e = .normal ∧ ∃ (ρ : Nat → Value) (σ : St), a = fr 33 (updL ρ [(0, (Sl Ak Aj Am)), (1, (I Ao)), (2, (Sl Ar Ap As)), (3, (I Aq)), (21, (B o1))]) ∧ w = σ.w ∧ Hp S0 σ0 σ [Ch.ro 0 (Sl Ak Aj Am) Aj, Ch.ro 0 (Sl Ar Ap As) Ap]) ?_ ?_
 ·clear h'
  rename _ = some o1 => h
  refine rg (sm (I Ao) rfl ?_)
  revert h; refine br fun r2 hx3 h => ?_
  have hc4 := c_impl_validTreeKind hx3
  refine st_call (cx_call hc4 (ent_f hc4.fn rfl) hn0 (H.sel' [0, 1] rfl rfl : Hp S0 σ0 _ ([] ++ _))) wn ?_
  rintro _ σ5 ⟨_, ⟨rfl, rfl⟩, H, -⟩
  replace H : Hp _ _ _ [_, _] := H
  refine st (v := (B (!r2))) (rv_not rfl) (sm (B (!r2)) rfl ?_)
  rcases Bool.eq_false_or_eq_true (!r2) with hb6 | hb6
  ·replace h := bif_t hb6 h
   refine st_skip (congrArg some hb6) (st_skip (congrArg some hb6) (st_skip (congrArg some hb6) (st_skip (congrArg some hb6) (st_skip (congrArg some hb6) (st_skip (congrArg some hb6) (st (v := (B true)) (rv_pick_t (congrArg B hb6) rfl) (w_end ?_)))))))
   obtain rfl := sj h
   exact ⟨rfl, _, σ5, fr_join ⟨rfl, rfl, rfl, rfl, rfl, trivial⟩, rfl, H.sel' [0, 1] rfl rfl⟩
  ·replace h := bif_f hb6 h
   refine st_g (v := (Sl Ak Aj Am)) (congrArg some hb6) (rv_move rfl) (st_g (v := (I Ao)) (congrArg some hb6) (rv_move rfl) (st_g (v := (Sl Ar Ap As)) (congrArg some hb6) (rv_move rfl) (st_g (v := (I Aq)) (congrArg some hb6) (rv_move rfl) ?_)))
   revert h; refine br fun r7 hx8 h => ?_
   have hc9 := c_impl_validSearch (Ak := Ak) (Am := Am) (Ar := Ar) (As := As) hx8
   refine st_call (cx_call hc9 (ent_f hc9.fn rfl) hn0 (H.sel' [0, 1, 0, 1] rfl rfl : Hp S0 σ0 _ ([_, _] ++ _))) (wanted_yes rfl (by exact (congrArg some hb6))) ?_
   rintro _ σ10 ⟨_, ⟨rfl, rfl⟩, H, -⟩
   replace H : Hp _ _ _ [_, _] := H
   refine st_g (v := (B (!r7))) (congrArg some hb6) (rv_not rfl) (st (v := (B (!r7))) (rv_pick_f (congrArg B hb6) rfl) (w_end ?_))
   obtain rfl := sj h
   exact ⟨rfl, _, σ10, fr_join ⟨rfl, rfl, rfl, rfl, rfl, trivial⟩, rfl, H.sel' [0, 1] rfl rfl⟩
 ·clear hj
  have h := h'
  clear h' H
  rintro e a w ⟨rfl, ρ, σ11, rfl, rfl, H⟩
  refine q_then ?_
  refine cd_cond o1 rfl (fun hb12 => ?_) (fun hb12 => ?_)
  ·replace h := bif_t hb12 h
   refine c_seq (rg (sa (.slice none 0 0) rfl (w_end (q_then (c_ret (q_then_r ?_))))))
   replace H := H.nilOwn (Int × Int) 0 n0
   obtain rfl := sj h
   exact fin_ret (v := (.slice none 0 0)) (results_ok Tryz.results9 (res_tmp (v := (.slice none 0 0)) rfl res_nil) rfl) ⟨none, 0, rfl, rfl⟩ (H.sel' [0] rfl rfl)
  ·replace h := bif_f hb12 h
   refine c_skip (q_then (c_seq (rg (sm (Sl Ak Aj Am) rfl (sm (I Ao) rfl ?_)))))
   revert h; refine br fun r13 hx14 h => ?_
   have hc15 := c_impl_growTree 100 (Ak := Ak) (Am := Am) hx14
   refine st_call (cx_call hc15 (ent_f hc15.fn rfl) hn0 (H.sel' [0, 0, 1] rfl rfl : Hp S0 σ0 _ ([_] ++ _))) wn ?_
   rintro _ σ17 ⟨_, ⟨a16, rfl, rfl⟩, H, -⟩
   replace H : Hp _ _ _ [_, _, _] := H
   refine sm (I Ao) rfl (sm (Sl Ar Ap As) rfl (sm (I Aq) rfl ?_))
   revert h; refine br fun r18 hx19 h => ?_
   have hc20 := c_impl_searchTree (Cn := a16) (Ar := Ar) (As := As) hx19
   refine st_call (cx_call hc20 (ent_f hc20.fn rfl) hn0 (H.sel' [0, 2, 0, 1, 2] rfl rfl : Hp S0 σ0 _ ([_, _] ++ _))) wn ?_
   rintro _ σ23 ⟨_, ⟨a21, c22, rfl, rfl⟩, H, -⟩
   replace H : Hp _ _ _ [_, _, _, _] := H
   refine sm (.tuple #[(.agg #[(I r18.1.1), (Sl a21 r18.1.2 c22)]), (I r18.2)]) rfl (st (v := (.agg #[(I r18.1.1), (Sl a21 r18.1.2 c22)])) (rv_extract rfl rfl) (st (v := (I r18.2)) (rv_extract rfl rfl) (st_ex (ex_alloc (cs := [(I 0), (.slice none 0 0)]) H hn0 ti53 rfl) wn ?_)))
   rintro _ σ25 ⟨b24, rfl, H, -⟩
   refine st_exS (ex_store_box (k := 0) (cs := [(I 0), (.slice none 0 0)]) (vs := [(I r18.1.1), (Sl a21 r18.1.2 c22)]) (cs' := [(I r18.1.1), (Sl a21 r18.1.2 c22)]) H (i := 0) rfl ti53 rfl rfl rfl rfl rfl (Nat.le_of_ble_eq_true rfl) (by simp [plain]) rfl) wn ?_
   rintro σ26 ⟨H, -⟩
   refine sa (I r18.2) rfl (w_end (q_then (c_seq (rg ?_))))
   replace H := H.ownLow 1 0 0 rfl (Nat.le_refl _) (Nat.zero_le _)
   obtain ⟨σ27, hw28, H, -⟩ := H.pub 0 rfl (Nat.le_refl _)
   rw [← hw28]; clear hw28
   revert h; refine br fun r29 hx30 h => ?_
   have hc31 := c_impl_nearestHits_inOrder (Cd := n0) (Ce := b24) (Cf := 0) (Cg := []) (Ci := []) (Cb := a21) (Cc := c22) hx30
   refine st_call (cx_call hc31 (ent_f hc31.fn rfl) hn0 (H.sel' [1, 0, 0, 2, 3, 4] rfl rfl : Hp S0 σ0 _ ([_, _] ++ _))) wn ?_
   rintro _ σ34 ⟨_, ⟨a32, c33, rfl, rfl⟩, H, -⟩
   replace H : Hp _ _ _ [_, _, _, _, _, _] := H
   refine sa (Sl a32 r29 c33) rfl (w_end (q_then (c_ret ?_)))
   obtain rfl := sj h
   exact fin_ret (v := (Sl a32 r29 c33)) (results_ok Tryz.results9 (res_tmp (v := (Sl a32 r29 c33)) rfl res_nil) rfl) ⟨a32, c33, rfl, rfl⟩ (H.sel' [0] rfl rfl)

theorem c_spec_inRange {Bz : Int} {Es : Int} {Et : Int}  {r : Bool} (h : M.spec_inRange Bz Es Et = some r) :
    Cal2 Tryz.prog 38 [(I Bz), (I Es), (I Et)] [] (fun n0 v L => v = (B r) ∧ L = []) := by
 refine cal2 (n := 15) Tryz.func38 rfl rfl rfl rfl ?_
 intro S0 σ0 n0 hn0 H
 unfold M.spec_inRange at h
 refine c_seq (rg (sa (B false) rfl (w_end (q_then (c_seq (rg (sm (I Es) rfl (sm (I Bz) rfl (st (v := (B (decide (Es ≤ Bz)))) (rv_leq (a := Es) (b := Bz) rfl rfl) (sm (B (decide (Es ≤ Bz))) rfl ?_))))))))))
 rcases Bool.eq_false_or_eq_true (decide (Es ≤ Bz)) with hb1 | hb1
 ·replace h := bif_t hb1 h
  refine st_g (v := (I Bz)) (congrArg some hb1) (rv_move rfl) (st_g (v := (I Et)) (congrArg some hb1) (rv_move rfl) (st_g (v := (B (decide (Bz ≤ Et)))) (congrArg some hb1) (rv_leq (a := Bz) (b := Et) rfl rfl) (st (v := (B (decide (Bz ≤ Et)))) (rv_pick_t (congrArg B hb1) rfl) (sa (B (decide (Bz ≤ Et))) rfl (w_end (q_then (c_ret ?_)))))))
  obtain rfl := sj h
  exact fin_ret (v := (B (decide (Bz ≤ Et)))) (results_ok Tryz.results38 (res_tmp (v := (B (decide (Bz ≤ Et)))) rfl res_nil) rfl) ⟨rfl, rfl⟩ (H.sel' [] rfl rfl)
 ·replace h := bif_f hb1 h
  refine st_skip (congrArg some hb1) (st_skip (congrArg some hb1) (st_skip (congrArg some hb1) (st (v := (B false)) (rv_pick_f (congrArg B hb1) rfl) (sa (B false) rfl (w_end (q_then (c_ret ?_)))))))
  obtain rfl := sj h
  exact fin_ret (v := (B false)) (results_ok Tryz.results38 (res_tmp (v := (B false)) rfl res_nil) rfl) ⟨rfl, rfl⟩ (H.sel' [] rfl rfl)

theorem c_spec_allIn {Aj : List Int} {Es : Int} {Et : Int} {Ak : Option Addr} {Am : Nat} {r : Bool} (h : M.spec_allIn Aj Es Et = some r) :
    Cal2 Tryz.prog 102 [(Sl Ak Aj Am), (I Es), (I Et)] [Ch.ro 0 (Sl Ak Aj Am) Aj] (fun n0 v L => v = (B r) ∧ L = []) := by
 refine cal2 (n := 22) Tryz.func102 rfl rfl rfl rfl ?_
 intro S0 σ0 n0 hn0 H
 unfold M.spec_allIn at h
 refine c_seq (rg (sa (B false) rfl (w_end (q_then (c_seq (c_seq (rg (sa (I 0) rfl (w_end (q_then ?_))))))))))
 obtain ⟨o1, hj, h'⟩ := bind_some h
 clear h
 refine c_cut (fun e a w => (∃ t, o1 = (.inl t) ∧ e = .normal ∧ ∃ (ρ : Nat → Value) (σ : St), a = fr 22 (updL ρ []) ∧ w = σ.w ∧ Hp S0 σ0 σ []) ∨ (∃ t, o1 = (.inr t) ∧ e = .ret ∧ ∃ (ρ : Nat → Value) (σ : St), a = fr 22 (updL ρ [(6, (B t))]) ∧ w = σ.w ∧ Hp S0 σ0 σ [])) ?_ ?_
 ·clear h'
  rename _ = some o1 => h
  refine c_blk (wp_loopM _ h (fun s2 a w => ∃ (ρ : Nat → Value) (σ : St), a = fr 22 (updL ρ [(0, (Sl Ak Aj Am)), (1, (I Es)), (2, (I Et)), (7, (I s2))]) ∧ w = σ.w ∧ Hp S0 σ0 σ [Ch.ro 0 (Sl Ak Aj Am) Aj]) ⟨_, σ0, fr_join ⟨rfl, rfl, rfl, rfl, trivial⟩, rfl, H.sel' [0] rfl rfl⟩ ?_)
  clear h H
  rintro s2 a w o ⟨ρ, σ3, rfl, rfl, H⟩ h hres
  refine c_seq (c_seq (rg (sm (I s2) rfl (sm (Sl Ak Aj Am) rfl (st (v := (I (Aj.length : Int))) (rv_len Tryz.underlying24 rfl) (st (v := (B (decide (s2 < (Aj.length : Int))))) (rv_lss (a := s2) (b := (Aj.length : Int)) rfl rfl) (w_end (q_then ?_))))))))
  refine cd_cond (decide (s2 < (Aj.length : Int))) rfl (fun hb4 => ?_) (fun hb4 => ?_)
  ·replace h := bif_t hb4 h
   refine c_skip (q_then (c_seq (c_blk (c_seq (rg (sm (Sl Ak Aj Am) rfl (sm (I s2) rfl ?_)))))))
   revert h; refine br fun x5 hx6 h => ?_
   obtain ⟨b8, o9, hi7, -⟩ := (H.ro 0 rfl).ix hx6
   refine st (v := (pt b8 o9)) (rv_ix Tryz.underlying24 ti3 rfl rfl hi7) ?_
   have hc10 := ((H.ro 0 rfl).at hx6 hi7).int
   refine st (v := (I x5)) (rv_load1 Tryz.underlying3 rfl rfl hc10) (sm (I Es) rfl (sm (I Et) rfl ?_))
   revert h; refine br fun r11 hx12 h => ?_
   have hc13 := c_spec_inRange hx12
   refine st_call (cx_call hc13 (ent_f hc13.fn rfl) hn0 (H.sel' [0] rfl rfl : Hp S0 σ0 _ ([] ++ _))) wn ?_
   rintro _ σ14 ⟨_, ⟨rfl, rfl⟩, H, -⟩
   replace H : Hp _ _ _ [_] := H
   refine st (v := (B (!r11))) (rv_not rfl) (w_end (q_then ?_))
   refine cd_cond (!r11) rfl (fun hb15 => ?_) (fun hb15 => ?_)
   ·replace h := bif_t hb15 h
    refine c_seq (rg (sa (B false) rfl (w_end (q_then (c_ret (q_blk_r (q_then_r (q_then_r (q_blk_r ?_)))))))))
    obtain rfl := sj h
    obtain rfl := hres _ rfl
    exact .inr (⟨_, rfl, rfl, _, σ14, fr_join ⟨rfl, trivial⟩, rfl, H.sel' [] rfl rfl⟩)
   ·replace h := bif_f hb15 h
    refine c_skip (q_blk (q_then (rg (sm (I s2) rfl (st (v := (I (w64 (s2 + 1)))) (rv_add (a := s2) (b := 1) rfl rfl) (sa (I (w64 (s2 + 1))) rfl (w_end (q_then ?_))))))))
    obtain rfl := sj h
    exact ⟨_, rfl, _, σ14, fr_join ⟨rfl, rfl, rfl, rfl, trivial⟩, rfl, H.sel' [0] rfl rfl⟩
  ·replace h := bif_f hb4 h
   refine c_exit (q_then_x (q_then_x (q_blk_hit ?_)))
   obtain rfl := sj h
   obtain rfl := hres _ rfl
   exact .inl ⟨_, rfl, rfl, _, σ3, fr_join trivial, rfl, H.sel' [] rfl rfl⟩
 ·clear hj
  have h := h'
  clear h' H
  rintro e a w (⟨t16, rfl, rfl, ρ, σ17, rfl, rfl, H⟩ | ⟨t18, rfl, rfl, ρ, σ19, rfl, rfl, H⟩)
  ·replace h := selim_l h
   refine q_then (c_seq (rg (sa (B true) rfl (w_end (q_then (c_ret ?_))))))
   obtain rfl := sj h
   exact fin_ret (v := (B true)) (results_ok Tryz.results102 (res_tmp (v := (B true)) rfl res_nil) rfl) ⟨rfl, rfl⟩ (H.sel' [] rfl rfl)
  ·replace h := selim_r h
   refine q_then_r ?_
   obtain rfl := sj h
   exact fin_ret (v := (B t18)) (results_ok Tryz.results102 (res_tmp (v := (B t18)) rfl res_nil) rfl) ⟨rfl, rfl⟩ (H.sel' [] rfl rfl)

theorem c_spec_isVector {Ac : List Int} {Ad : Option Addr} {Ae : Nat} {r : Bool} (h : M.spec_isVector Ac = some r) :
    Cal2 Tryz.prog 75 [(Sl Ad Ac Ae)] [Ch.ro 0 (Sl Ad Ac Ae) Ac] (fun n0 v L => v = (B r) ∧ L = []) := by
 refine cal2 (n := 10) Tryz.func75 rfl rfl rfl rfl ?_
 intro S0 σ0 n0 hn0 H
 unfold M.spec_isVector at h
 refine c_seq (rg (sa (B false) rfl (w_end (q_then (c_seq (rg (sm (Sl Ad Ac Ae) rfl (st (v := (I (Ac.length : Int))) (rv_len Tryz.underlying24 rfl) (st (v := (B ((Ac.length : Int) == 4))) (rv_eql (a := (Ac.length : Int)) (b := 4) rfl rfl) (sm (B ((Ac.length : Int) == 4)) rfl ?_))))))))))
 rcases Bool.eq_false_or_eq_true ((Ac.length : Int) == 4) with hb1 | hb1
 ·replace h := bif_t hb1 h
  refine st_g (v := (Sl Ad Ac Ae)) (congrArg some hb1) (rv_move rfl) ?_
  revert h; refine br fun r2 hx3 h => ?_
  have hc4 := c_spec_allIn (Ak := Ad) (Am := Ae) hx3
  refine st_call (cx_call hc4 (ent_f hc4.fn rfl) hn0 (H.sel' [0, 0] rfl rfl : Hp S0 σ0 _ ([_] ++ _))) (wanted_yes rfl (by exact (congrArg some hb1))) ?_
  rintro _ σ5 ⟨_, ⟨rfl, rfl⟩, H, -⟩
  replace H : Hp _ _ _ [_] := H
  refine st (v := (B r2)) (rv_pick_t (congrArg B hb1) rfl) (sa (B r2) rfl (w_end (q_then (c_ret ?_))))
  obtain rfl := sj h
  exact fin_ret (v := (B r2)) (results_ok Tryz.results75 (res_tmp (v := (B r2)) rfl res_nil) rfl) ⟨rfl, rfl⟩ (H.sel' [] rfl rfl)
 ·replace h := bif_f hb1 h
  refine st_skip (congrArg some hb1) (st_skip (congrArg some hb1) (st (v := (B false)) (rv_pick_f (congrArg B hb1) rfl) (sa (B false) rfl (w_end (q_then (c_ret ?_))))))
  obtain rfl := sj h
  exact fin_ret (v := (B false)) (results_ok Tryz.results75 (res_tmp (v := (B false)) rfl res_nil) rfl) ⟨rfl, rfl⟩ (H.sel' [] rfl rfl)

theorem c_spec_validItem {Ag : Int × (List Int) × Int} {Ah : Option Addr} {Ai : Nat} {r : Bool} (h : M.spec_validItem Ag = some r) :
    Cal2 Tryz.prog 101 [(.agg #[(I Ag.1), (Sl Ah Ag.2.1 Ai), (I Ag.2.2)])] [Ch.ro 0 (Sl Ah Ag.2.1 Ai) Ag.2.1] (fun n0 v L => v = (B r) ∧ L = []) := by
 refine cal2 (n := 16) Tryz.func101 rfl rfl rfl rfl ?_
 intro S0 σ0 n0 hn0 H
 unfold M.spec_validItem at h
 refine c_seq (rg (st_ex (ex_box (cs := [(I Ag.1), (Sl Ah Ag.2.1 Ai), (I Ag.2.2)]) H hn0 rfl rfl) wn ?_))
 rintro _ σ2 ⟨b1, rfl, H, -⟩
 refine sa (B false) rfl (w_end (q_then (c_seq (rg (st (v := (pt b1 0)) (rv_fieldAddr (off := 0) (ft := 3) Tryz.underlying79 rfl ti3 rfl rfl) ?_)))))
 have hc3 := H.cell (u := (I Ag.1)) (o' := 0) 0 0 rfl rfl rfl
 refine st (v := (I Ag.1)) (rv_load1 Tryz.underlying3 rfl rfl hc3) ?_
 revert h; refine br fun r4 hx5 h => ?_
 have hc6 := c_spec_inRange hx5
 refine st_call (cx_call hc6 (ent_f hc6.fn rfl) hn0 (H.sel' [0, 1] rfl rfl : Hp S0 σ0 _ ([] ++ _))) wn ?_
 rintro _ σ7 ⟨_, ⟨rfl, rfl⟩, H, -⟩
 replace H : Hp _ _ _ [_, _] := H
 refine sm (B r4) rfl ?_
 rcases Bool.eq_false_or_eq_true r4 with hb8 | hb8
 ·replace h := bif_t hb8 h
  refine st_g (v := (pt b1 1)) (congrArg some hb8) (rv_fieldAddr (off := 1) (ft := 24) Tryz.underlying79 rfl ti24 rfl rfl) ?_
  have hc9 := H.cell (u := (Sl Ah Ag.2.1 Ai)) (o' := 1) 0 1 rfl rfl rfl
  refine st_g (v := (Sl Ah Ag.2.1 Ai)) (congrArg some hb8) (rv_load1 Tryz.underlying24 rfl rfl hc9) ?_
  revert h; refine br fun r10 hx11 h => ?_
  have hc12 := c_spec_isVector (Ad := Ah) (Ae := Ai) hx11
  refine st_call (cx_call hc12 (ent_f hc12.fn rfl) hn0 (H.sel' [1, 0, 1] rfl rfl : Hp S0 σ0 _ ([_] ++ _))) (wanted_yes rfl (by exact (congrArg some hb8))) ?_
  rintro _ σ13 ⟨_, ⟨rfl, rfl⟩, H, -⟩
  replace H : Hp _ _ _ [_, _] := H
  refine st (v := (B r10)) (rv_pick_t (congrArg B hb8) rfl) (sm (B r10) rfl ?_)
  rcases Bool.eq_false_or_eq_true r10 with hb14 | hb14
  ·replace h := bif_t hb14 h
   refine st_g (v := (pt b1 2)) (congrArg some hb14) (rv_fieldAddr (off := 2) (ft := 3) Tryz.underlying79 rfl ti3 rfl rfl) ?_
   have hc15 := H.cell (u := (I Ag.2.2)) (o' := 2) 0 2 rfl rfl rfl
   refine st_g (v := (I Ag.2.2)) (congrArg some hb14) (rv_load1 Tryz.underlying3 rfl rfl hc15) ?_
   revert h; refine br fun r16 hx17 h => ?_
   have hc18 := c_spec_inRange hx17
   refine st_call (cx_call hc18 (ent_f hc18.fn rfl) hn0 (H.sel' [0, 1] rfl rfl : Hp S0 σ0 _ ([] ++ _))) (wanted_yes rfl (by exact (congrArg some hb14))) ?_
   rintro _ σ19 ⟨_, ⟨rfl, rfl⟩, H, -⟩
   replace H : Hp _ _ _ [_, _] := H
   refine st (v := (B r16)) (rv_pick_t (congrArg B hb14) rfl) (sa (B r16) rfl (w_end (q_then (c_ret ?_))))
   obtain rfl := sj h
   exact fin_ret (v := (B r16)) (results_ok Tryz.results101 (res_tmp (v := (B r16)) rfl res_nil) rfl) ⟨rfl, rfl⟩ (H.sel' [] rfl rfl)
  ·replace h := bif_f hb14 h
   refine st_skip (congrArg some hb14) (st_skip (congrArg some hb14) (st_skip (congrArg some hb14) (st (v := (B false)) (rv_pick_f (congrArg B hb14) rfl) (sa (B false) rfl (w_end (q_then (c_ret ?_)))))))
   obtain rfl := sj h
   exact fin_ret (v := (B false)) (results_ok Tryz.results101 (res_tmp (v := (B false)) rfl res_nil) rfl) ⟨rfl, rfl⟩ (H.sel' [] rfl rfl)
 ·replace h := bif_f hb8 h
  refine st_skip (congrArg some hb8) (st_skip (congrArg some hb8) (st_skip (congrArg some hb8) (st (v := (B false)) (rv_pick_f (congrArg B hb8) rfl) (sm (B false) rfl (st_skip rfl (st_skip rfl (st_skip rfl (st (v := (B false)) (rv_pick_f rfl rfl) (sa (B false) rfl (w_end (q_then ?_)))))))))))
  refine c_ret ?_
  obtain rfl := sj h
  exact fin_ret (v := (B false)) (results_ok Tryz.results101 (res_tmp (v := (B false)) rfl res_nil) rfl) ⟨rfl, rfl⟩ (H.sel' [] rfl rfl)

theorem c_spec_validStore {Aj : List (Int × (List Int) × Int)} {Ak : Option Addr} {Am : Nat} {r : Bool} (h : M.spec_validStore Aj = some r) :
    Cal2 Tryz.prog 73 [(Sl Ak Aj Am)] [Ch.ro 0 (Sl Ak Aj Am) Aj] (fun n0 v L => v = (B r) ∧ L = []) := by
 refine cal2 (n := 37) Tryz.func73 rfl rfl rfl rfl ?_
 intro S0 σ0 n0 hn0 H
 unfold M.spec_validStore at h
 refine c_seq (rg (sa (B false) rfl (w_end (q_then (c_seq (c_seq (rg (sa (I 0) rfl (w_end (q_then ?_))))))))))
 obtain ⟨o1, hj, h'⟩ := bind_some h
 clear h
 refine c_cut (fun e a w => (∃ t, o1 = (.inl t) ∧ e = .normal ∧ ∃ (ρ : Nat → Value) (σ : St), a = fr 37 (updL ρ [(0, (Sl Ak Aj Am))]) ∧ w = σ.w ∧ Hp S0 σ0 σ [Ch.ro 0 (Sl Ak Aj Am) Aj]) ∨ (∃ t, o1 = (.inr t) ∧ e = .ret ∧ ∃ (ρ : Nat → Value) (σ : St), a = fr 37 (updL ρ [(2, (B t))]) ∧ w = σ.w ∧ Hp S0 σ0 σ [])) ?_ ?_
 ·clear h'
  rename _ = some o1 => h
  refine c_blk (wp_loopM _ h (fun s2 a w => ∃ (ρ : Nat → Value) (σ : St), a = fr 37 (updL ρ [(0, (Sl Ak Aj Am)), (3, (I s2))]) ∧ w = σ.w ∧ Hp S0 σ0 σ [Ch.ro 0 (Sl Ak Aj Am) Aj]) ⟨_, σ0, fr_join ⟨rfl, rfl, trivial⟩, rfl, H.sel' [0] rfl rfl⟩ ?_)
  clear h H
  rintro s2 a w o ⟨ρ, σ3, rfl, rfl, H⟩ h hres
  refine c_seq (c_seq (rg (sm (I s2) rfl (sm (Sl Ak Aj Am) rfl (st (v := (I (Aj.length : Int))) (rv_len Tryz.underlying23 rfl) (st (v := (B (decide (s2 < (Aj.length : Int))))) (rv_lss (a := s2) (b := (Aj.length : Int)) rfl rfl) (w_end (q_then ?_))))))))
  refine cd_cond (decide (s2 < (Aj.length : Int))) rfl (fun hb4 => ?_) (fun hb4 => ?_)
  ·replace h := bif_t hb4 h
   refine c_skip (q_then (c_seq (c_blk (c_seq ?_))))
   obtain ⟨o5, hj, h'⟩ := bind_some h
   clear h
   refine c_cut (fun e a w => e = .normal ∧ ∃ (ρ : Nat → Value) (σ : St), a = fr 37 (updL ρ [(0, (Sl Ak Aj Am)), (3, (I s2)), (33, (B o5))]) ∧ w = σ.w ∧ Hp S0 σ0 σ [Ch.ro 0 (Sl Ak Aj Am) Aj]) ?_ ?_
   ·clear h'
    rename _ = some o5 => h
    revert h; refine br fun x6 hx7 h => ?_
    obtain ⟨b9, o10, hi8, -⟩ := (H.ro 0 rfl).ix hx7
    obtain ⟨_, ⟨_, _, rfl, rfl, ⟨_, _, rfl, ⟨_, rfl, hR15⟩, rfl⟩⟩, hl11, hc12⟩ := ((H.ro 0 rfl).at hx7 hi8).cells
    obtain ⟨a13, c14, rfl⟩ := hR15.isSl
    replace H := H.add (d := Ch.ro 0 (Sl a13 x6.2.1 c14) x6.2.1) hR15 (fun _ h => h)
    clear hR15
    revert h; refine br fun r16 hx17 h => ?_
    have hc18 := c_spec_validItem (Ah := a13) (Ai := c14) hx17
    rcases Bool.eq_false_or_eq_true (!r16) with hb19 | hb19
    ·replace h := bif_t hb19 h
     have Hs := H
     refine rg2 (σ := σ3) (Nm := Unit) 21 [4] [[false], [true]] [[(0, 0)], [(0, 0)], [(0, 0)], [(0, 0)], [(0, 1)], [(1, 1)], [(1, 1)], [(1, 1)], [(1, 1)], [(1, 1)], [(1, 1)], [(1, 1)], [(1, 1)], [(1, 1)], [(1, 1)], [(1, 1)], [(1, 1)], [(1, 1)], [(1, 1)], [(1, 1)], [(1, 1)]] 1 [fun _ => fun σm => Hp S0 σ0 σm [Ch.ro 0 (Sl a13 x6.2.1 c14) x6.2.1, Ch.ro 0 (Sl Ak Aj Am) Aj] ∧ Md (cov []) σ3 σm, fun _ => fun σm => Hp S0 σ0 σm [Ch.ro 0 (Sl a13 x6.2.1 c14) x6.2.1, Ch.ro 0 (Sl Ak Aj Am) Aj] ∧ Md (cov []) σ3 σm] [fun _ => (Sl Ak Aj Am), fun _ => (I s2), fun _ => (pt b9 o10), fun _ => (.agg #[(I x6.1), (Sl a13 x6.2.1 c14), (I x6.2.2)]), fun _ => (B r16), fun _ => (B (!r16)), fun _ => (B (!r16)), fun _ => undef, fun _ => undef, fun _ => undef, fun _ => undef, fun _ => undef, fun _ => undef, fun _ => undef, fun _ => undef, fun _ => undef, fun _ => undef, fun _ => undef, fun _ => undef, fun _ => undef, fun _ => undef] () (by kernel_rfl) (by kernel_rfl) ?_ ?_ ?_
     ·intro σm m0
      exact ⟨H.grow (m0.mono fun _ h => h.elim), m0⟩
     ·refine ac rfl (by
        intro k _nm ρ σm hJ hoff hdep
        have e0 := look_off (N := 37) (hoff 0 rfl) rfl
        exact dp_v (v := (Sl Ak Aj Am)) wn (rv_move e0) rfl hJ) ?_
      refine ac rfl (by
        intro k _nm ρ σm hJ hoff hdep
        have e3 := look_off (N := 37) (hoff 3 rfl) rfl
        exact dp_v (v := (I s2)) wn (rv_move e3) rfl hJ) ?_
      refine ac rfl (by
        intro k _nm ρ σm hJ hoff hdep
        have e10 := hdep 0 rfl rfl 10 rfl
        have e11 := hdep 1 rfl rfl 11 rfl
        exact dp_v (v := (pt b9 o10)) wn (rv_ix Tryz.underlying23 ti79 e10 e11 hi8) rfl hJ) ?_
      refine all_cons (by
        refine ⟨?_, ?_⟩
        ·intro _nm ρ σm hJ hoff hdep
         have e12 := hdep 2 rfl rfl 12 rfl
         obtain ⟨H, m⟩ := id hJ
         replace hc12 := fun j hj => (Hs.ro 1 rfl).hmd hx7 hi8 (k := j) (Nat.lt_of_lt_of_eq hj hl11) (hc12 j hj) m
         exact dp_v (v := (.agg #[(I x6.1), (Sl a13 x6.2.1 c14), (I x6.2.2)])) wn (rv_load Tryz.underlying79 rfl ti79 e12 hl11 hc12) rfl hJ
        trivial) ?_
      refine all_cons (by
        refine ⟨?_, ?_⟩
        ·intro _nm ρ σm hJ hoff hdep
         have e13 : look 37 ρ 13 = (.agg #[(I x6.1), (Sl a13 x6.2.1 c14), (I x6.2.2)]) := hdep 3 rfl rfl 13 rfl
         obtain ⟨H, m⟩ := id hJ
         refine dp_cx wn (cx_call hc18 (ent_f hc18.fn (by show [look 37 ρ 13] = _; rw [e13])) hn0 (H.sel' [0, 0, 1] rfl rfl : Hp S0 σ0 _ ([_] ++ _))) ?_
         rintro _ σq ⟨_, ⟨rfl, rfl⟩, H2, m2⟩
         exact ⟨_, (), rfl, rfl, ⟨H2.sel' [0, 1] rfl rfl, m.comp0 (m2.mono (fun i h => by simp [cov, Ch.ro] at h))⟩, stab [0, 1, 2, 3] (by kernel_rfl) ⟨rfl, rfl, rfl, rfl, trivial⟩⟩
        trivial) ?_
      refine ac rfl (by
        intro k _nm ρ σm hJ hoff hdep
        have e14 := hdep 4 rfl rfl 14 rfl
        exact dp_v (v := (B (!r16))) wn (rv_not e14) rfl hJ) ?_
      refine ac rfl (by
        intro k _nm ρ σm hJ hoff hdep
        have e15 := hdep 5 rfl rfl 15 rfl
        exact dp_v (v := (B (!r16))) wn (rv_move e15) rfl hJ) ?_
      refine ac rfl (by
        intro k _nm ρ σm hJ hoff hdep
        have e16 := hdep 6 rfl rfl 16 rfl
        exact dp_skip (wanted_no rfl (yv_of rfl (e16.trans (congrArg B hb19)))) rfl hJ) ?_
      refine ac rfl (by
        intro k _nm ρ σm hJ hoff hdep
        have e16 := hdep 6 rfl rfl 16 rfl
        exact dp_skip (wanted_no rfl (yv_of rfl (e16.trans (congrArg B hb19)))) rfl hJ) ?_
      refine ac rfl (by
        intro k _nm ρ σm hJ hoff hdep
        have e16 := hdep 6 rfl rfl 16 rfl
        exact dp_skip (wanted_no rfl (yv_of rfl (e16.trans (congrArg B hb19)))) rfl hJ) ?_
      refine ac rfl (by
        intro k _nm ρ σm hJ hoff hdep
        have e19 := hdep 9 rfl rfl 19 rfl
        exact dp_skip (wanted_u rfl (yv_undef rfl e19)) rfl hJ) ?_
      refine ac rfl (by
        intro k _nm ρ σm hJ hoff hdep
        have e19 := hdep 9 rfl rfl 19 rfl
        exact dp_skip (wanted_u rfl (yv_undef rfl e19)) rfl hJ) ?_
      refine ac rfl (by
        intro k _nm ρ σm hJ hoff hdep
        have e19 := hdep 9 rfl rfl 19 rfl
        exact dp_skip (wanted_u rfl (yv_undef rfl e19)) rfl hJ) ?_
      refine ac rfl (by
        intro k _nm ρ σm hJ hoff hdep
        have e19 := hdep 9 rfl rfl 19 rfl
        exact dp_skip (wanted_u rfl (yv_undef rfl e19)) rfl hJ) ?_
      refine ac rfl (by
        intro k _nm ρ σm hJ hoff hdep
        have e19 := hdep 9 rfl rfl 19 rfl
        exact dp_skip (wanted_u rfl (yv_undef rfl e19)) rfl hJ) ?_
      refine ac rfl (by
        intro k _nm ρ σm hJ hoff hdep
        have e19 := hdep 9 rfl rfl 19 rfl
        exact dp_skip (wanted_u rfl (yv_undef rfl e19)) rfl hJ) ?_
      refine ac rfl (by
        intro k _nm ρ σm hJ hoff hdep
        have e19 := hdep 9 rfl rfl 19 rfl
        exact dp_skip (wanted_u rfl (yv_undef rfl e19)) rfl hJ) ?_
      refine ac rfl (by
        intro k _nm ρ σm hJ hoff hdep
        have e19 := hdep 9 rfl rfl 19 rfl
        exact dp_skip (wanted_u rfl (yv_undef rfl e19)) rfl hJ) ?_
      refine ac rfl (by
        intro k _nm ρ σm hJ hoff hdep
        have e19 := hdep 9 rfl rfl 19 rfl
        exact dp_skip (wanted_u rfl (yv_undef rfl e19)) rfl hJ) ?_
      refine ac rfl (by
        intro k _nm ρ σm hJ hoff hdep
        have e19 := hdep 9 rfl rfl 19 rfl
        exact dp_skip (wanted_u rfl (yv_undef rfl e19)) rfl hJ) ?_
      refine ac rfl (by
        intro k _nm ρ σm hJ hoff hdep
        have e19 := hdep 9 rfl rfl 19 rfl
        exact dp_skip (wanted_u rfl (yv_undef rfl e19)) rfl hJ) ?_
      exact all_nil
     ·intro _nm ρ σ20 hJ hoff hrel
      have e0 := look_off (N := 37) (hoff 0 rfl) rfl
      have e3 := look_off (N := 37) (hoff 3 rfl) rfl
      have e16 := hrel 6 rfl 16 rfl
      have e19 := hrel 9 rfl 19 rfl
      have e24 := hrel 14 rfl 24 rfl
      have e30 := hrel 20 rfl 30 rfl
      obtain ⟨H, -⟩ := (show Hp S0 σ0 σ20 [Ch.ro 0 (Sl a13 x6.2.1 c14) x6.2.1, Ch.ro 0 (Sl Ak Aj Am) Aj] ∧ Md (cov []) σ3 σ20 from hJ)
      clear hJ Hs
      rw [fr_lookL (L := [(0, (Sl Ak Aj Am)), (3, (I s2)), (16, (B (!r16))), (19, undef), (24, undef), (30, undef)]) ⟨e0, e3, e16, e19, e24, e30, trivial⟩]
      clear hoff hrel e0 e3 e16 e19 e24 e30
      refine st_skip_u rfl (st_skip (congrArg some hb19) (st (v := (B true)) (rv_pick_t (congrArg B hb19) rfl) (w_end ?_)))
      obtain rfl := sj h
      exact ⟨rfl, _, σ20, fr_join ⟨rfl, rfl, rfl, trivial⟩, rfl, H.sel' [1] rfl rfl⟩
    ·replace h := bif_f hb19 h
     rcases Bool.eq_false_or_eq_true (decide (0 < s2)) with hb21 | hb21
     ·replace h := bif_t hb21 h
      revert h; refine br fun x22 hx23 h => ?_
      obtain ⟨b25, o26, hi24, -⟩ := (H.ro 1 rfl).ix hx23
      have hc27 := ((H.ro 1 rfl).at hx23 hi24).fst.int
      revert h; refine br fun x28 hx29 h => ?_
      obtain ⟨b31, o32, hi30, -⟩ := (H.ro 1 rfl).ix hx29
      have hc33 := ((H.ro 1 rfl).at hx29 hi30).fst.int
      have Hs := H
      refine rg2 (σ := σ3) (Nm := Unit) 21 [4] [[false], [true]] [[(0, 0)], [(0, 0)], [(0, 0)], [(0, 0)], [(0, 1)], [(1, 1)], [(1, 1)], [(1, 1)], [(1, 1)], [(1, 1)], [(1, 1)], [(1, 1)], [(1, 1)], [(1, 1)], [(1, 1)], [(1, 1)], [(1, 1)], [(1, 1)], [(1, 1)], [(1, 1)], [(1, 1)]] 1 [fun _ => fun σm => Hp S0 σ0 σm [Ch.ro 0 (Sl a13 x6.2.1 c14) x6.2.1, Ch.ro 0 (Sl Ak Aj Am) Aj] ∧ Md (cov []) σ3 σm, fun _ => fun σm => Hp S0 σ0 σm [Ch.ro 0 (Sl a13 x6.2.1 c14) x6.2.1, Ch.ro 0 (Sl Ak Aj Am) Aj] ∧ Md (cov []) σ3 σm] [fun _ => (Sl Ak Aj Am), fun _ => (I s2), fun _ => (pt b9 o10), fun _ => (.agg #[(I x6.1), (Sl a13 x6.2.1 c14), (I x6.2.2)]), fun _ => (B r16), fun _ => (B (!r16)), fun _ => (B (!r16)), fun _ => (I s2), fun _ => (B (decide (0 < s2))), fun _ => (B (decide (0 < s2))), fun _ => (Sl Ak Aj Am), fun _ => (I s2), fun _ => (pt b25 o26), fun _ => (pt b25 (o26 + 0)), fun _ => (I x22.1), fun _ => (Sl Ak Aj Am), fun _ => (I s2), fun _ => (I (w64 (s2 - 1))), fun _ => (pt b31 o32), fun _ => (pt b31 (o32 + 0)), fun _ => (I x28.1)] () (by kernel_rfl) (by kernel_rfl) ?_ ?_ ?_
      ·intro σm m0
       exact ⟨H.grow (m0.mono fun _ h => h.elim), m0⟩
      ·refine ac rfl (by
         intro k _nm ρ σm hJ hoff hdep
         have e0 := look_off (N := 37) (hoff 0 rfl) rfl
         exact dp_v (v := (Sl Ak Aj Am)) wn (rv_move e0) rfl hJ) ?_
       refine ac rfl (by
         intro k _nm ρ σm hJ hoff hdep
         have e3 := look_off (N := 37) (hoff 3 rfl) rfl
         exact dp_v (v := (I s2)) wn (rv_move e3) rfl hJ) ?_
       refine ac rfl (by
         intro k _nm ρ σm hJ hoff hdep
         have e10 := hdep 0 rfl rfl 10 rfl
         have e11 := hdep 1 rfl rfl 11 rfl
         exact dp_v (v := (pt b9 o10)) wn (rv_ix Tryz.underlying23 ti79 e10 e11 hi8) rfl hJ) ?_
       refine all_cons (by
         refine ⟨?_, ?_⟩
         ·intro _nm ρ σm hJ hoff hdep
          have e12 := hdep 2 rfl rfl 12 rfl
          obtain ⟨H, m⟩ := id hJ
          replace hc12 := fun j hj => (Hs.ro 1 rfl).hmd hx7 hi8 (k := j) (Nat.lt_of_lt_of_eq hj hl11) (hc12 j hj) m
          exact dp_v (v := (.agg #[(I x6.1), (Sl a13 x6.2.1 c14), (I x6.2.2)])) wn (rv_load Tryz.underlying79 rfl ti79 e12 hl11 hc12) rfl hJ
         trivial) ?_
       refine all_cons (by
         refine ⟨?_, ?_⟩
         ·intro _nm ρ σm hJ hoff hdep
          have e13 : look 37 ρ 13 = (.agg #[(I x6.1), (Sl a13 x6.2.1 c14), (I x6.2.2)]) := hdep 3 rfl rfl 13 rfl
          obtain ⟨H, m⟩ := id hJ
          refine dp_cx wn (cx_call hc18 (ent_f hc18.fn (by show [look 37 ρ 13] = _; rw [e13])) hn0 (H.sel' [0, 0, 1] rfl rfl : Hp S0 σ0 _ ([_] ++ _))) ?_
          rintro _ σq ⟨_, ⟨rfl, rfl⟩, H2, m2⟩
          exact ⟨_, (), rfl, rfl, ⟨H2.sel' [0, 1] rfl rfl, m.comp0 (m2.mono (fun i h => by simp [cov, Ch.ro] at h))⟩, stab [0, 1, 2, 3] (by kernel_rfl) ⟨rfl, rfl, rfl, rfl, trivial⟩⟩
         trivial) ?_
       refine ac rfl (by
         intro k _nm ρ σm hJ hoff hdep
         have e14 := hdep 4 rfl rfl 14 rfl
         exact dp_v (v := (B (!r16))) wn (rv_not e14) rfl hJ) ?_
       refine ac rfl (by
         intro k _nm ρ σm hJ hoff hdep
         have e15 := hdep 5 rfl rfl 15 rfl
         exact dp_v (v := (B (!r16))) wn (rv_move e15) rfl hJ) ?_
       refine ac rfl (by
         intro k _nm ρ σm hJ hoff hdep
         have e3 := look_off (N := 37) (hoff 3 rfl) rfl
         have e16 := hdep 6 rfl rfl 16 rfl
         exact dp_v (v := (I s2)) (wanted_yes rfl (yv_of rfl (e16.trans (congrArg B hb19)))) (rv_move e3) rfl hJ) ?_
       refine ac rfl (by
         intro k _nm ρ σm hJ hoff hdep
         have e17 := hdep 7 rfl rfl 17 rfl
         have e16 := hdep 6 rfl rfl 16 rfl
         exact dp_v (v := (B (decide (0 < s2)))) (wanted_yes rfl (yv_of rfl (e16.trans (congrArg B hb19)))) (rv_gtr (a := s2) (b := 0) e17 rfl) rfl hJ) ?_
       refine ac rfl (by
         intro k _nm ρ σm hJ hoff hdep
         have e18 := hdep 8 rfl rfl 18 rfl
         have e16 := hdep 6 rfl rfl 16 rfl
         exact dp_v (v := (B (decide (0 < s2)))) (wanted_yes rfl (yv_of rfl (e16.trans (congrArg B hb19)))) (rv_move e18) rfl hJ) ?_
       refine ac rfl (by
         intro k _nm ρ σm hJ hoff hdep
         have e0 := look_off (N := 37) (hoff 0 rfl) rfl
         have e19 := hdep 9 rfl rfl 19 rfl
         exact dp_v (v := (Sl Ak Aj Am)) (wanted_yes rfl (yv_of rfl (e19.trans (congrArg B hb21)))) (rv_move e0) rfl hJ) ?_
       refine ac rfl (by
         intro k _nm ρ σm hJ hoff hdep
         have e3 := look_off (N := 37) (hoff 3 rfl) rfl
         have e19 := hdep 9 rfl rfl 19 rfl
         exact dp_v (v := (I s2)) (wanted_yes rfl (yv_of rfl (e19.trans (congrArg B hb21)))) (rv_move e3) rfl hJ) ?_
       refine ac rfl (by
         intro k _nm ρ σm hJ hoff hdep
         have e20 := hdep 10 rfl rfl 20 rfl
         have e21 := hdep 11 rfl rfl 21 rfl
         have e19 := hdep 9 rfl rfl 19 rfl
         exact dp_v (v := (pt b25 o26)) (wanted_yes rfl (yv_of rfl (e19.trans (congrArg B hb21)))) (rv_ix Tryz.underlying23 ti79 e20 e21 hi24) rfl hJ) ?_
       refine ac rfl (by
         intro k _nm ρ σm hJ hoff hdep
         have e22 := hdep 12 rfl rfl 22 rfl
         have e19 := hdep 9 rfl rfl 19 rfl
         exact dp_v (v := (pt b25 (o26 + 0))) (wanted_yes rfl (yv_of rfl (e19.trans (congrArg B hb21)))) (rv_fieldAddr (off := 0) (ft := 3) Tryz.underlying79 rfl ti3 rfl e22) rfl hJ) ?_
       refine all_cons (by
         refine ⟨?_, ?_⟩
         ·intro _nm ρ σm hJ hoff hdep
          have e23 := hdep 13 rfl rfl 23 rfl
          have e19 := hdep 9 rfl rfl 19 rfl
          obtain ⟨H, m⟩ := id hJ
          replace hc27 := (Hs.ro 1 rfl).hmd hx23 hi24 (k := 0) (by decide) hc27 m
          exact dp_v (v := (I x22.1)) (wanted_yes rfl (yv_of rfl (e19.trans (congrArg B hb21)))) (rv_load1 Tryz.underlying3 rfl e23 hc27) rfl hJ
         trivial) ?_
       refine ac rfl (by
         intro k _nm ρ σm hJ hoff hdep
         have e0 := look_off (N := 37) (hoff 0 rfl) rfl
         have e19 := hdep 9 rfl rfl 19 rfl
         exact dp_v (v := (Sl Ak Aj Am)) (wanted_yes rfl (yv_of rfl (e19.trans (congrArg B hb21)))) (rv_move e0) rfl hJ) ?_
       refine ac rfl (by
         intro k _nm ρ σm hJ hoff hdep
         have e3 := look_off (N := 37) (hoff 3 rfl) rfl
         have e19 := hdep 9 rfl rfl 19 rfl
         exact dp_v (v := (I s2)) (wanted_yes rfl (yv_of rfl (e19.trans (congrArg B hb21)))) (rv_move e3) rfl hJ) ?_
       refine ac rfl (by
         intro k _nm ρ σm hJ hoff hdep
         have e26 := hdep 16 rfl rfl 26 rfl
         have e19 := hdep 9 rfl rfl 19 rfl
         exact dp_v (v := (I (w64 (s2 - 1)))) (wanted_yes rfl (yv_of rfl (e19.trans (congrArg B hb21)))) (rv_sub (a := s2) (b := 1) e26 rfl) rfl hJ) ?_
       refine ac rfl (by
         intro k _nm ρ σm hJ hoff hdep
         have e25 := hdep 15 rfl rfl 25 rfl
         have e27 := hdep 17 rfl rfl 27 rfl
         have e19 := hdep 9 rfl rfl 19 rfl
         exact dp_v (v := (pt b31 o32)) (wanted_yes rfl (yv_of rfl (e19.trans (congrArg B hb21)))) (rv_ix Tryz.underlying23 ti79 e25 e27 hi30) rfl hJ) ?_
       refine ac rfl (by
         intro k _nm ρ σm hJ hoff hdep
         have e28 := hdep 18 rfl rfl 28 rfl
         have e19 := hdep 9 rfl rfl 19 rfl
         exact dp_v (v := (pt b31 (o32 + 0))) (wanted_yes rfl (yv_of rfl (e19.trans (congrArg B hb21)))) (rv_fieldAddr (off := 0) (ft := 3) Tryz.underlying79 rfl ti3 rfl e28) rfl hJ) ?_
       refine all_cons (by
         refine ⟨?_, ?_⟩
         ·intro _nm ρ σm hJ hoff hdep
          have e29 := hdep 19 rfl rfl 29 rfl
          have e19 := hdep 9 rfl rfl 19 rfl
          obtain ⟨H, m⟩ := id hJ
          replace hc33 := (Hs.ro 1 rfl).hmd hx29 hi30 (k := 0) (by decide) hc33 m
          exact dp_v (v := (I x28.1)) (wanted_yes rfl (yv_of rfl (e19.trans (congrArg B hb21)))) (rv_load1 Tryz.underlying3 rfl e29 hc33) rfl hJ
         trivial) ?_
       exact all_nil
      ·intro _nm ρ σ34 hJ hoff hrel
       have e0 := look_off (N := 37) (hoff 0 rfl) rfl
       have e3 := look_off (N := 37) (hoff 3 rfl) rfl
       have e16 := hrel 6 rfl 16 rfl
       have e19 := hrel 9 rfl 19 rfl
       have e24 := hrel 14 rfl 24 rfl
       have e30 := hrel 20 rfl 30 rfl
       obtain ⟨H, -⟩ := (show Hp S0 σ0 σ34 [Ch.ro 0 (Sl a13 x6.2.1 c14) x6.2.1, Ch.ro 0 (Sl Ak Aj Am) Aj] ∧ Md (cov []) σ3 σ34 from hJ)
       clear hJ Hs
       rw [fr_lookL (L := [(0, (Sl Ak Aj Am)), (3, (I s2)), (16, (B (!r16))), (19, (B (decide (0 < s2)))), (24, (I x22.1)), (30, (I x28.1))]) ⟨e0, e3, e16, e19, e24, e30, trivial⟩]
       clear hoff hrel e0 e3 e16 e19 e24 e30
       refine st_g (v := (B (decide (x22.1 ≤ x28.1)))) (congrArg some hb21) (rv_leq (a := x22.1) (b := x28.1) rfl rfl) (st_g (v := (B (decide (x22.1 ≤ x28.1)))) (congrArg some hb19) (rv_pick_t (congrArg B hb21) rfl) (st (v := (B (decide (x22.1 ≤ x28.1)))) (rv_pick_f (congrArg B hb19) rfl) (w_end ?_)))
       obtain rfl := sj h
       exact ⟨rfl, _, σ34, fr_join ⟨rfl, rfl, rfl, trivial⟩, rfl, H.sel' [1] rfl rfl⟩
     ·replace h := bif_f hb21 h
      have Hs := H
      refine rg2 (σ := σ3) (Nm := Unit) 21 [4] [[false], [true]] [[(0, 0)], [(0, 0)], [(0, 0)], [(0, 0)], [(0, 1)], [(1, 1)], [(1, 1)], [(1, 1)], [(1, 1)], [(1, 1)], [(1, 1)], [(1, 1)], [(1, 1)], [(1, 1)], [(1, 1)], [(1, 1)], [(1, 1)], [(1, 1)], [(1, 1)], [(1, 1)], [(1, 1)]] 1 [fun _ => fun σm => Hp S0 σ0 σm [Ch.ro 0 (Sl a13 x6.2.1 c14) x6.2.1, Ch.ro 0 (Sl Ak Aj Am) Aj] ∧ Md (cov []) σ3 σm, fun _ => fun σm => Hp S0 σ0 σm [Ch.ro 0 (Sl a13 x6.2.1 c14) x6.2.1, Ch.ro 0 (Sl Ak Aj Am) Aj] ∧ Md (cov []) σ3 σm] [fun _ => (Sl Ak Aj Am), fun _ => (I s2), fun _ => (pt b9 o10), fun _ => (.agg #[(I x6.1), (Sl a13 x6.2.1 c14), (I x6.2.2)]), fun _ => (B r16), fun _ => (B (!r16)), fun _ => (B (!r16)), fun _ => (I s2), fun _ => (B (decide (0 < s2))), fun _ => (B (decide (0 < s2))), fun _ => undef, fun _ => undef, fun _ => undef, fun _ => undef, fun _ => undef, fun _ => undef, fun _ => undef, fun _ => undef, fun _ => undef, fun _ => undef, fun _ => undef] () (by kernel_rfl) (by kernel_rfl) ?_ ?_ ?_
      ·intro σm m0
       exact ⟨H.grow (m0.mono fun _ h => h.elim), m0⟩
      ·refine ac rfl (by
         intro k _nm ρ σm hJ hoff hdep
         have e0 := look_off (N := 37) (hoff 0 rfl) rfl
         exact dp_v (v := (Sl Ak Aj Am)) wn (rv_move e0) rfl hJ) ?_
       refine ac rfl (by
         intro k _nm ρ σm hJ hoff hdep
         have e3 := look_off (N := 37) (hoff 3 rfl) rfl
         exact dp_v (v := (I s2)) wn (rv_move e3) rfl hJ) ?_
       refine ac rfl (by
         intro k _nm ρ σm hJ hoff hdep
         have e10 := hdep 0 rfl rfl 10 rfl
         have e11 := hdep 1 rfl rfl 11 rfl
         exact dp_v (v := (pt b9 o10)) wn (rv_ix Tryz.underlying23 ti79 e10 e11 hi8) rfl hJ) ?_
       refine all_cons (by
         refine ⟨?_, ?_⟩
         ·intro _nm ρ σm hJ hoff hdep
          have e12 := hdep 2 rfl rfl 12 rfl
          obtain ⟨H, m⟩ := id hJ
          replace hc12 := fun j hj => (Hs.ro 1 rfl).hmd hx7 hi8 (k := j) (Nat.lt_of_lt_of_eq hj hl11) (hc12 j hj) m
          exact dp_v (v := (.agg #[(I x6.1), (Sl a13 x6.2.1 c14), (I x6.2.2)])) wn (rv_load Tryz.underlying79 rfl ti79 e12 hl11 hc12) rfl hJ
         trivial) ?_
       refine all_cons (by
         refine ⟨?_, ?_⟩
         ·intro _nm ρ σm hJ hoff hdep
          have e13 : look 37 ρ 13 = (.agg #[(I x6.1), (Sl a13 x6.2.1 c14), (I x6.2.2)]) := hdep 3 rfl rfl 13 rfl
          obtain ⟨H, m⟩ := id hJ
          refine dp_cx wn (cx_call hc18 (ent_f hc18.fn (by show [look 37 ρ 13] = _; rw [e13])) hn0 (H.sel' [0, 0, 1] rfl rfl : Hp S0 σ0 _ ([_] ++ _))) ?_
          rintro _ σq ⟨_, ⟨rfl, rfl⟩, H2, m2⟩
          exact ⟨_, (), rfl, rfl, ⟨H2.sel' [0, 1] rfl rfl, m.comp0 (m2.mono (fun i h => by simp [cov, Ch.ro] at h))⟩, stab [0, 1, 2, 3] (by kernel_rfl) ⟨rfl, rfl, rfl, rfl, trivial⟩⟩
         trivial) ?_
       refine ac rfl (by
         intro k _nm ρ σm hJ hoff hdep
         have e14 := hdep 4 rfl rfl 14 rfl
         exact dp_v (v := (B (!r16))) wn (rv_not e14) rfl hJ) ?_
       refine ac rfl (by
         intro k _nm ρ σm hJ hoff hdep
         have e15 := hdep 5 rfl rfl 15 rfl
         exact dp_v (v := (B (!r16))) wn (rv_move e15) rfl hJ) ?_
       refine ac rfl (by
         intro k _nm ρ σm hJ hoff hdep
         have e3 := look_off (N := 37) (hoff 3 rfl) rfl
         have e16 := hdep 6 rfl rfl 16 rfl
         exact dp_v (v := (I s2)) (wanted_yes rfl (yv_of rfl (e16.trans (congrArg B hb19)))) (rv_move e3) rfl hJ) ?_
       refine ac rfl (by
         intro k _nm ρ σm hJ hoff hdep
         have e17 := hdep 7 rfl rfl 17 rfl
         have e16 := hdep 6 rfl rfl 16 rfl
         exact dp_v (v := (B (decide (0 < s2)))) (wanted_yes rfl (yv_of rfl (e16.trans (congrArg B hb19)))) (rv_gtr (a := s2) (b := 0) e17 rfl) rfl hJ) ?_
       refine ac rfl (by
         intro k _nm ρ σm hJ hoff hdep
         have e18 := hdep 8 rfl rfl 18 rfl
         have e16 := hdep 6 rfl rfl 16 rfl
         exact dp_v (v := (B (decide (0 < s2)))) (wanted_yes rfl (yv_of rfl (e16.trans (congrArg B hb19)))) (rv_move e18) rfl hJ) ?_
       refine ac rfl (by
         intro k _nm ρ σm hJ hoff hdep
         have e19 := hdep 9 rfl rfl 19 rfl
         exact dp_skip (wanted_no rfl (yv_of rfl (e19.trans (congrArg B hb21)))) rfl hJ) ?_
       refine ac rfl (by
         intro k _nm ρ σm hJ hoff hdep
         have e19 := hdep 9 rfl rfl 19 rfl
         exact dp_skip (wanted_no rfl (yv_of rfl (e19.trans (congrArg B hb21)))) rfl hJ) ?_
       refine ac rfl (by
         intro k _nm ρ σm hJ hoff hdep
         have e19 := hdep 9 rfl rfl 19 rfl
         exact dp_skip (wanted_no rfl (yv_of rfl (e19.trans (congrArg B hb21)))) rfl hJ) ?_
       refine ac rfl (by
         intro k _nm ρ σm hJ hoff hdep
         have e19 := hdep 9 rfl rfl 19 rfl
         exact dp_skip (wanted_no rfl (yv_of rfl (e19.trans (congrArg B hb21)))) rfl hJ) ?_
       refine ac rfl (by
         intro k _nm ρ σm hJ hoff hdep
         have e19 := hdep 9 rfl rfl 19 rfl
         exact dp_skip (wanted_no rfl (yv_of rfl (e19.trans (congrArg B hb21)))) rfl hJ) ?_
       refine ac rfl (by
         intro k _nm ρ σm hJ hoff hdep
         have e19 := hdep 9 rfl rfl 19 rfl
         exact dp_skip (wanted_no rfl (yv_of rfl (e19.trans (congrArg B hb21)))) rfl hJ) ?_
       refine ac rfl (by
         intro k _nm ρ σm hJ hoff hdep
         have e19 := hdep 9 rfl rfl 19 rfl
         exact dp_skip (wanted_no rfl (yv_of rfl (e19.trans (congrArg B hb21)))) rfl hJ) ?_
       refine ac rfl (by
         intro k _nm ρ σm hJ hoff hdep
         have e19 := hdep 9 rfl rfl 19 rfl
         exact dp_skip (wanted_no rfl (yv_of rfl (e19.trans (congrArg B hb21)))) rfl hJ) ?_
       refine ac rfl (by
         intro k _nm ρ σm hJ hoff hdep
         have e19 := hdep 9 rfl rfl 19 rfl
         exact dp_skip (wanted_no rfl (yv_of rfl (e19.trans (congrArg B hb21)))) rfl hJ) ?_
       refine ac rfl (by
         intro k _nm ρ σm hJ hoff hdep
         have e19 := hdep 9 rfl rfl 19 rfl
         exact dp_skip (wanted_no rfl (yv_of rfl (e19.trans (congrArg B hb21)))) rfl hJ) ?_
       refine ac rfl (by
         intro k _nm ρ σm hJ hoff hdep
         have e19 := hdep 9 rfl rfl 19 rfl
         exact dp_skip (wanted_no rfl (yv_of rfl (e19.trans (congrArg B hb21)))) rfl hJ) ?_
       exact all_nil
      ·intro _nm ρ σ35 hJ hoff hrel
       have e0 := look_off (N := 37) (hoff 0 rfl) rfl
       have e3 := look_off (N := 37) (hoff 3 rfl) rfl
       have e16 := hrel 6 rfl 16 rfl
       have e19 := hrel 9 rfl 19 rfl
       have e24 := hrel 14 rfl 24 rfl
       have e30 := hrel 20 rfl 30 rfl
       obtain ⟨H, -⟩ := (show Hp S0 σ0 σ35 [Ch.ro 0 (Sl a13 x6.2.1 c14) x6.2.1, Ch.ro 0 (Sl Ak Aj Am) Aj] ∧ Md (cov []) σ3 σ35 from hJ)
       clear hJ Hs
       rw [fr_lookL (L := [(0, (Sl Ak Aj Am)), (3, (I s2)), (16, (B (!r16))), (19, (B (decide (0 < s2)))), (24, undef), (30, undef)]) ⟨e0, e3, e16, e19, e24, e30, trivial⟩]
       clear hoff hrel e0 e3 e16 e19 e24 e30
       refine st_skip (congrArg some hb21) (st_g (v := (B false)) (congrArg some hb19) (rv_pick_f (congrArg B hb21) rfl) (st (v := (B false)) (rv_pick_f (congrArg B hb19) rfl) (w_end ?_)))
       obtain rfl := sj h
       exact ⟨rfl, _, σ35, fr_join ⟨rfl, rfl, rfl, trivial⟩, rfl, H.sel' [1] rfl rfl⟩
   ·clear hj
    have h := h'
    clear h' H
    rintro e a w ⟨rfl, ρ, σ36, rfl, rfl, H⟩
    refine q_then ?_
    refine cd_cond o5 rfl (fun hb37 => ?_) (fun hb37 => ?_)
    ·replace h := bif_t hb37 h
     refine c_seq (rg (sa (B false) rfl (w_end (q_then (c_ret (q_blk_r (q_then_r (q_then_r (q_blk_r ?_)))))))))
     obtain rfl := sj h
     obtain rfl := hres _ rfl
     exact .inr (⟨_, rfl, rfl, _, σ36, fr_join ⟨rfl, trivial⟩, rfl, H.sel' [] rfl rfl⟩)
    ·replace h := bif_f hb37 h
     refine c_skip (q_blk (q_then (rg (sm (I s2) rfl (st (v := (I (w64 (s2 + 1)))) (rv_add (a := s2) (b := 1) rfl rfl) (sa (I (w64 (s2 + 1))) rfl (w_end (q_then ?_))))))))
     obtain rfl := sj h
     exact ⟨_, rfl, _, σ36, fr_join ⟨rfl, rfl, trivial⟩, rfl, H.sel' [0] rfl rfl⟩
  ·replace h := bif_f hb4 h
   refine c_exit (q_then_x (q_then_x (q_blk_hit ?_)))
   obtain rfl := sj h
   obtain rfl := hres _ rfl
   exact .inl ⟨_, rfl, rfl, _, σ3, fr_join ⟨rfl, trivial⟩, rfl, H.sel' [0] rfl rfl⟩
 ·clear hj
  have h := h'
  clear h' H
  rintro e a w (⟨t38, rfl, rfl, ρ, σ39, rfl, rfl, H⟩ | ⟨t40, rfl, rfl, ρ, σ41, rfl, rfl, H⟩)
  ·replace h := selim_l h
   refine q_then (c_seq (rg (sm (Sl Ak Aj Am) rfl (st (v := (I (Aj.length : Int))) (rv_len Tryz.underlying23 rfl) (st (v := (B (decide ((Aj.length : Int) ≤ 16)))) (rv_leq (a := (Aj.length : Int)) (b := 16) rfl rfl) (sa (B (decide ((Aj.length : Int) ≤ 16))) rfl (w_end (q_then (c_ret ?_)))))))))
   obtain rfl := sj h
   exact fin_ret (v := (B (decide ((Aj.length : Int) ≤ 16)))) (results_ok Tryz.results73 (res_tmp (v := (B (decide ((Aj.length : Int) ≤ 16)))) rfl res_nil) rfl) ⟨rfl, rfl⟩ (H.sel' [] rfl rfl)
  ·replace h := selim_r h
   refine q_then_r ?_
   obtain rfl := sj h
   exact fin_ret (v := (B t40)) (results_ok Tryz.results73 (res_tmp (v := (B t40)) rfl res_nil) rfl) ⟨rfl, rfl⟩ (H.sel' [] rfl rfl)

theorem c_spec_validKind {Aa : Int}  {r : Bool} (h : M.spec_validKind Aa = some r) :
    Cal2 Tryz.prog 74 [(I Aa)] [] (fun n0 v L => v = (B r) ∧ L = []) := by
 refine cal2 (n := 5) Tryz.func74 rfl rfl rfl rfl ?_
 intro S0 σ0 n0 hn0 H
 unfold M.spec_validKind at h
 refine c_seq (rg (sa (B false) rfl (w_end (q_then (c_seq (rg (sm (I Aa) rfl ?_)))))))
 revert h; refine br fun r1 hx2 h => ?_
 have hc3 := c_spec_inRange hx2
 refine st_call (cx_call hc3 (ent_f hc3.fn rfl) hn0 (H.sel' [] rfl rfl : Hp S0 σ0 _ ([] ++ _))) wn ?_
 rintro _ σ4 ⟨_, ⟨rfl, rfl⟩, H, -⟩
 replace H : Hp _ _ _ [] := H
 refine sa (B r1) rfl (w_end (q_then (c_ret ?_)))
 obtain rfl := sj h
 exact fin_ret (v := (B r1)) (results_ok Tryz.results74 (res_tmp (v := (B r1)) rfl res_nil) rfl) ⟨rfl, rfl⟩ (H.sel' [] rfl rfl)

theorem c_spec_validQuery {Aj : List (Int × (List Int) × Int)} {Ao : Int} {Ap : List Int} {Ak : Option Addr} {Am : Nat} {Ar : Option Addr} {As : Nat} {r : Bool} (h : M.spec_validQuery Aj Ao Ap = some r) :
    Cal2 Tryz.prog 36 [(Sl Ak Aj Am), (I Ao), (Sl Ar Ap As)] [Ch.ro 0 (Sl Ak Aj Am) Aj, Ch.ro 0 (Sl Ar Ap As) Ap] (fun n0 v L => v = (B r) ∧ L = []) := by
 refine cal2 (n := 17) Tryz.func36 rfl rfl rfl rfl ?_
 intro S0 σ0 n0 hn0 H
 unfold M.spec_validQuery at h
 refine c_seq (rg (sa (B false) rfl (w_end (q_then (c_seq (rg (sm (Sl Ak Aj Am) rfl ?_)))))))
 revert h; refine br fun r1 hx2 h => ?_
 have hc3 := c_spec_validStore (Ak := Ak) (Am := Am) hx2
 refine st_call (cx_call hc3 (ent_f hc3.fn rfl) hn0 (H.sel' [0, 0, 1] rfl rfl : Hp S0 σ0 _ ([_] ++ _))) wn ?_
 rintro _ σ4 ⟨_, ⟨rfl, rfl⟩, H, -⟩
 replace H : Hp _ _ _ [_, _] := H
 refine sm (B r1) rfl ?_
 rcases Bool.eq_false_or_eq_true r1 with hb5 | hb5
 ·replace h := bif_t hb5 h
  refine st_g (v := (I Ao)) (congrArg some hb5) (rv_move rfl) ?_
  revert h; refine br fun r6 hx7 h => ?_
  have hc8 := c_spec_validKind hx7
  refine st_call (cx_call hc8 (ent_f hc8.fn rfl) hn0 (H.sel' [0, 1] rfl rfl : Hp S0 σ0 _ ([] ++ _))) (wanted_yes rfl (by exact (congrArg some hb5))) ?_
  rintro _ σ9 ⟨_, ⟨rfl, rfl⟩, H, -⟩
  replace H : Hp _ _ _ [_, _] := H
  refine st (v := (B r6)) (rv_pick_t (congrArg B hb5) rfl) (sm (B r6) rfl ?_)
  rcases Bool.eq_false_or_eq_true r6 with hb10 | hb10
  ·replace h := bif_t hb10 h
   refine st_g (v := (Sl Ar Ap As)) (congrArg some hb10) (rv_move rfl) ?_
   revert h; refine br fun r11 hx12 h => ?_
   have hc13 := c_spec_isVector (Ad := Ar) (Ae := As) hx12
   refine st_call (cx_call hc13 (ent_f hc13.fn rfl) hn0 (H.sel' [1, 0, 1] rfl rfl : Hp S0 σ0 _ ([_] ++ _))) (wanted_yes rfl (by exact (congrArg some hb10))) ?_
   rintro _ σ14 ⟨_, ⟨rfl, rfl⟩, H, -⟩
   replace H : Hp _ _ _ [_, _] := H
   refine st (v := (B r11)) (rv_pick_t (congrArg B hb10) rfl) (sa (B r11) rfl (w_end (q_then (c_ret ?_))))
   obtain rfl := sj h
   exact fin_ret (v := (B r11)) (results_ok Tryz.results36 (res_tmp (v := (B r11)) rfl res_nil) rfl) ⟨rfl, rfl⟩ (H.sel' [] rfl rfl)
  ·replace h := bif_f hb10 h
   refine st_skip (congrArg some hb10) (st_skip (congrArg some hb10) (st (v := (B false)) (rv_pick_f (congrArg B hb10) rfl) (sa (B false) rfl (w_end (q_then (c_ret ?_))))))
   obtain rfl := sj h
   exact fin_ret (v := (B false)) (results_ok Tryz.results36 (res_tmp (v := (B false)) rfl res_nil) rfl) ⟨rfl, rfl⟩ (H.sel' [] rfl rfl)
 ·replace h := bif_f hb5 h
  refine st_skip (congrArg some hb5) (st_skip (congrArg some hb5) (st (v := (B false)) (rv_pick_f (congrArg B hb5) rfl) (sm (B false) rfl (st_skip rfl (st_skip rfl (st (v := (B false)) (rv_pick_f rfl rfl) (sa (B false) rfl (w_end (q_then (c_ret ?_))))))))))
  obtain rfl := sj h
  exact fin_ret (v := (B false)) (results_ok Tryz.results36 (res_tmp (v := (B false)) rfl res_nil) rfl) ⟨rfl, rfl⟩ (H.sel' [] rfl rfl)

theorem c_spec_isMetric {Aa : Int}  {r : Bool} (h : M.spec_isMetric Aa = some r) :
    Cal2 Tryz.prog 37 [(I Aa)] [] (fun n0 v L => v = (B r) ∧ L = []) := by
 refine cal2 (n := 9) Tryz.func37 rfl rfl rfl rfl ?_
 intro S0 σ0 n0 hn0 H
 unfold M.spec_isMetric at h
 refine c_seq (rg (sa (B false) rfl (w_end (q_then (c_seq (rg (sm (I Aa) rfl ?_)))))))
 revert h; refine br fun r1 hx2 h => ?_
 have hc3 := c_spec_validKind hx2
 refine st_call (cx_call hc3 (ent_f hc3.fn rfl) hn0 (H.sel' [] rfl rfl : Hp S0 σ0 _ ([] ++ _))) wn ?_
 rintro _ σ4 ⟨_, ⟨rfl, rfl⟩, H, -⟩
 replace H : Hp _ _ _ [] := H
 refine sm (B r1) rfl ?_
 rcases Bool.eq_false_or_eq_true r1 with hb5 | hb5
 ·replace h := bif_t hb5 h
  refine st_g (v := (I Aa)) (congrArg some hb5) (rv_move rfl) (st_g (v := (B (Aa != 3))) (congrArg some hb5) (rv_neq (a := Aa) (b := 3) rfl rfl) (st (v := (B (Aa != 3))) (rv_pick_t (congrArg B hb5) rfl) (sa (B (Aa != 3)) rfl (w_end (q_then (c_ret ?_))))))
  obtain rfl := sj h
  exact fin_ret (v := (B (Aa != 3))) (results_ok Tryz.results37 (res_tmp (v := (B (Aa != 3))) rfl res_nil) rfl) ⟨rfl, rfl⟩ (H.sel' [] rfl rfl)
 ·replace h := bif_f hb5 h
  refine st_skip (congrArg some hb5) (st_skip (congrArg some hb5) (st (v := (B false)) (rv_pick_f (congrArg B hb5) rfl) (sa (B false) rfl (w_end (q_then (c_ret ?_))))))
  obtain rfl := sj h
  exact fin_ret (v := (B false)) (results_ok Tryz.results37 (res_tmp (v := (B false)) rfl res_nil) rfl) ⟨rfl, rfl⟩ (H.sel' [] rfl rfl)

theorem c_spec_size {Bz : Int}  {r : Int} (h : M.spec_size Bz = some r) :
    Cal2 Tryz.prog 113 [(I Bz)] [] (fun n0 v L => v = (I r) ∧ L = []) := by
 refine cal2 (n := 7) Tryz.func113 rfl rfl rfl rfl ?_
 intro S0 σ0 n0 hn0 H
 unfold M.spec_size at h
 refine c_seq (rg (sa (I 0) rfl (w_end (q_then (c_seq (rg (sm (I Bz) rfl (sm (I Bz) rfl (st (v := (I (w64 (0 - Bz)))) (rv_neg (a := Bz) rfl) (st (v := (I (max Bz (w64 (0 - Bz))))) (rv_max rfl rfl) (sa (I (max Bz (w64 (0 - Bz)))) rfl ?_)))))))))))
 refine w_end (q_then (c_ret ?_))
 obtain rfl := sj h
 exact fin_ret (v := (I (max Bz (w64 (0 - Bz))))) (results_ok Tryz.results113 (res_tmp (v := (I (max Bz (w64 (0 - Bz))))) rfl res_nil) rfl) ⟨rfl, rfl⟩ (H.sel' [] rfl rfl)

theorem c_spec_toInt {Cj : Bool}  {r : Int} (h : M.spec_toInt Cj = some r) :
    Cal2 Tryz.prog 114 [(B Cj)] [] (fun n0 v L => v = (I r) ∧ L = []) := by
 refine cal2 (n := 4) Tryz.func114 rfl rfl rfl rfl ?_
 intro S0 σ0 n0 hn0 H
 unfold M.spec_toInt at h
 refine c_seq (rg (sa (I 0) rfl (w_end (q_then (c_seq (c_seq (rg (sm (B Cj) rfl (w_end (q_then ?_))))))))))
 refine cd_cond Cj rfl (fun hb1 => ?_) (fun hb1 => ?_)
 ·replace h := bif_t hb1 h
  refine c_seq (rg (sa (I 1) rfl (w_end (q_then (c_ret (q_then_r ?_))))))
  obtain rfl := sj h
  exact fin_ret (v := (I 1)) (results_ok Tryz.results114 (res_tmp (v := (I 1)) rfl res_nil) rfl) ⟨rfl, rfl⟩ (H.sel' [] rfl rfl)
 ·replace h := bif_f hb1 h
  refine c_skip (q_then (c_seq (rg (sa (I 0) rfl (w_end (q_then (c_ret ?_)))))))
  obtain rfl := sj h
  exact fin_ret (v := (I 0)) (results_ok Tryz.results114 (res_tmp (v := (I 0)) rfl res_nil) rfl) ⟨rfl, rfl⟩ (H.sel' [] rfl rfl)

theorem c_spec_dist {Aa : Int} {Ba : List Int} {Bb : List Int} {Bc : Option Addr} {Bd : Nat} {Be : Option Addr} {Bf : Nat} {r : Int} (h : M.spec_dist Aa Ba Bb = some r) :
    Cal2 Tryz.prog 86 [(I Aa), (Sl Bc Ba Bd), (Sl Be Bb Bf)] [Ch.ro 0 (Sl Bc Ba Bd) Ba, Ch.ro 0 (Sl Be Bb Bf) Bb] (fun n0 v L => v = (I r) ∧ L = []) := by
 refine cal2 (n := 50) Tryz.func86 rfl rfl rfl rfl ?_
 intro S0 σ0 n0 hn0 H
 unfold M.spec_dist at h
 refine c_seq (rg (sa (I 0) rfl (w_end (q_then (c_seq (rg (sa (I 0) rfl (w_end (q_then (c_seq (c_seq ?_)))))))))))
 refine rg (sa (I 0) rfl (w_end (q_then ?_)))
 obtain ⟨o1, hj, h'⟩ := bind_some h
 clear h
 refine c_cut (fun e a w => e = .normal ∧ ∃ (ρ : Nat → Value) (σ : St), a = fr 50 (updL ρ [(7, (I o1))]) ∧ w = σ.w ∧ Hp S0 σ0 σ []) ?_ ?_
 ·clear h'
  rename _ = some o1 => h
  refine c_blk (wp_loopM _ h (fun s2 a w => ∃ (ρ : Nat → Value) (σ : St), a = fr 50 (updL ρ [(0, (I Aa)), (1, (Sl Bc Ba Bd)), (2, (Sl Be Bb Bf)), (7, (I s2.1)), (8, (I s2.2))]) ∧ w = σ.w ∧ Hp S0 σ0 σ [Ch.ro 0 (Sl Bc Ba Bd) Ba, Ch.ro 0 (Sl Be Bb Bf) Bb]) ⟨_, σ0, fr_join ⟨rfl, rfl, rfl, rfl, rfl, trivial⟩, rfl, H.sel' [0, 1] rfl rfl⟩ ?_)
  clear h H
  rintro s2 a w o ⟨ρ, σ3, rfl, rfl, H⟩ h hres
  refine c_seq (c_seq (rg (sm (I s2.2) rfl (sm (Sl Bc Ba Bd) rfl (st (v := (I (Ba.length : Int))) (rv_len Tryz.underlying24 rfl) (st (v := (B (decide (s2.2 < (Ba.length : Int))))) (rv_lss (a := s2.2) (b := (Ba.length : Int)) rfl rfl) (w_end (q_then ?_))))))))
  refine cd_cond (decide (s2.2 < (Ba.length : Int))) rfl (fun hb4 => ?_) (fun hb4 => ?_)
  ·replace h := bif_t hb4 h
   refine c_skip (q_then (c_seq ?_))
   obtain ⟨o5, hj, h'⟩ := bind_some h
   clear h
   refine c_cut (fun e a w => e = .normal ∧ ∃ (ρ : Nat → Value) (σ : St), a = fr 50 (updL ρ [(0, (I Aa)), (1, (Sl Bc Ba Bd)), (2, (Sl Be Bb Bf)), (7, (I o5)), (8, (I s2.2))]) ∧ w = σ.w ∧ Hp S0 σ0 σ [Ch.ro 0 (Sl Bc Ba Bd) Ba, Ch.ro 0 (Sl Be Bb Bf) Bb]) ?_ ?_
   ·clear h'
    rename _ = some o5 => h
    refine c_blk (c_seq ?_)
    refine rgP (σ := σ3) 8 (by kernel_rfl) (by kernel_rfl) (by kernel_rfl) ?_
    refine sq (v := (Sl Bc Ba Bd)) (rv_move rfl) (sq (v := (I s2.2)) (rv_move rfl) ?_)
    revert h; refine br fun x6 hx7 h => ?_
    obtain ⟨b9, o10, hi8, -⟩ := (H.ro 0 rfl).ix hx7
    refine sq (v := (pt b9 o10)) (rv_ix Tryz.underlying24 ti3 rfl rfl hi8) ?_
    have hc11 := ((H.ro 0 rfl).at hx7 hi8).int
    refine sq (v := (I x6)) (rv_load1 Tryz.underlying3 rfl rfl hc11) (sq (v := (Sl Be Bb Bf)) (rv_move rfl) (sq (v := (I s2.2)) (rv_move rfl) ?_))
    revert h; refine br fun x12 hx13 h => ?_
    obtain ⟨b15, o16, hi14, -⟩ := (H.ro 1 rfl).ix hx13
    refine sq (v := (pt b15 o16)) (rv_ix Tryz.underlying24 ti3 rfl rfl hi14) ?_
    have hc17 := ((H.ro 1 rfl).at hx13 hi14).int
    refine sq (v := (I x12)) (rv_load1 Tryz.underlying3 rfl rfl hc17) (sq_end ?_)
    intro σ18 hm19
    replace H := H.grow (hm19.mono fun _ h => h); clear hm19
    refine st (v := (I (w64 (x6 - x12)))) (rv_sub (a := x6) (b := x12) rfl rfl) ?_
    revert h; refine br fun r20 hx21 h => ?_
    have hc22 := c_spec_size hx21
    refine st_call (cx_call hc22 (ent_f hc22.fn rfl) hn0 (H.sel' [0, 1] rfl rfl : Hp S0 σ0 _ ([] ++ _))) wn ?_
    rintro _ σ23 ⟨_, ⟨rfl, rfl⟩, H, -⟩
    replace H : Hp _ _ _ [_, _] := H
    refine sa (I r20) rfl (w_end (q_then (c_seq (rg (sm (I Aa) rfl (w_end (q_then (c_blk (c_seq (rg (st (v := (B (Aa == 1))) (rv_eql (a := Aa) (b := 1) rfl rfl) ?_)))))))))))
    refine sa (B (Aa == 1)) rfl (w_end (q_then ?_))
    refine cd_cond (Aa == 1) rfl (fun hb24 => ?_) (fun hb24 => ?_)
    ·replace h := bif_t hb24 h
     refine rg (sm (I s2.1) rfl (sm (I r20) rfl (st (v := (I (w64 (s2.1 + r20)))) (rv_add (a := s2.1) (b := r20) rfl rfl) (sa (I (w64 (s2.1 + r20))) rfl (w_end (q_blk (q_blk ?_)))))))
     obtain rfl := sj h
     exact ⟨rfl, _, σ23, fr_join ⟨rfl, rfl, rfl, rfl, rfl, trivial⟩, rfl, H.sel' [0, 1] rfl rfl⟩
    ·replace h := bif_f hb24 h
     refine c_seq (rg (st (v := (B (Aa == 2))) (rv_eql (a := Aa) (b := 2) rfl rfl) (sa (B (Aa == 2)) rfl (w_end (q_then ?_)))))
     refine cd_cond (Aa == 2) rfl (fun hb25 => ?_) (fun hb25 => ?_)
     ·replace h := bif_t hb25 h
      refine rg (sm (I s2.1) rfl (sm (I r20) rfl (st (v := (I (max s2.1 r20))) (rv_max rfl rfl) (sa (I (max s2.1 r20)) rfl (w_end (q_blk (q_blk ?_)))))))
      obtain rfl := sj h
      exact ⟨rfl, _, σ23, fr_join ⟨rfl, rfl, rfl, rfl, rfl, trivial⟩, rfl, H.sel' [0, 1] rfl rfl⟩
     ·replace h := bif_f hb25 h
      refine c_seq (rg (st (v := (B (Aa == 3))) (rv_eql (a := Aa) (b := 3) rfl rfl) (sa (B (Aa == 3)) rfl (w_end (q_then ?_)))))
      refine cd_cond (Aa == 3) rfl (fun hb26 => ?_) (fun hb26 => ?_)
      ·replace h := bif_t hb26 h
       refine rg (sm (I s2.1) rfl (sm (I r20) rfl (sm (I r20) rfl (st (v := (I (w64 (r20 * r20)))) (rv_mul (a := r20) (b := r20) rfl rfl) (st (v := (I (w64 (s2.1 + (w64 (r20 * r20)))))) (rv_add (a := s2.1) (b := (w64 (r20 * r20))) rfl rfl) (sa (I (w64 (s2.1 + (w64 (r20 * r20))))) rfl (w_end (q_blk (q_blk ?_)))))))))
       obtain rfl := sj h
       exact ⟨rfl, _, σ23, fr_join ⟨rfl, rfl, rfl, rfl, rfl, trivial⟩, rfl, H.sel' [0, 1] rfl rfl⟩
      ·replace h := bif_f hb26 h
       refine rg (sm (I s2.1) rfl (sm (I r20) rfl (st (v := (B (decide (0 < r20)))) (rv_gtr (a := r20) (b := 0) rfl rfl) ?_)))
       revert h; refine br fun r27 hx28 h => ?_
       have hc29 := c_spec_toInt hx28
       refine st_call (cx_call hc29 (ent_f hc29.fn rfl) hn0 (H.sel' [0, 1] rfl rfl : Hp S0 σ0 _ ([] ++ _))) wn ?_
       rintro _ σ30 ⟨_, ⟨rfl, rfl⟩, H, -⟩
       replace H : Hp _ _ _ [_, _] := H
       refine st (v := (I (w64 (s2.1 + r27)))) (rv_add (a := s2.1) (b := r27) rfl rfl) (sa (I (w64 (s2.1 + r27))) rfl (w_end (q_blk (q_blk ?_))))
       obtain rfl := sj h
       exact ⟨rfl, _, σ30, fr_join ⟨rfl, rfl, rfl, rfl, rfl, trivial⟩, rfl, H.sel' [0, 1] rfl rfl⟩
   ·clear hj
    have h := h'
    clear h' H
    rintro e a w ⟨rfl, ρ, σ31, rfl, rfl, H⟩
    refine q_then (rg (sm (I s2.2) rfl (st (v := (I (w64 (s2.2 + 1)))) (rv_add (a := s2.2) (b := 1) rfl rfl) (sa (I (w64 (s2.2 + 1))) rfl (w_end (q_then ?_))))))
    obtain rfl := sj h
    exact ⟨_, rfl, _, σ31, fr_join ⟨rfl, rfl, rfl, rfl, rfl, trivial⟩, rfl, H.sel' [0, 1] rfl rfl⟩
  ·replace h := bif_f hb4 h
   refine c_exit (q_then_x (q_then_x (q_blk_hit ?_)))
   obtain rfl := sj h
   obtain rfl := hres _ rfl
   exact ⟨rfl, _, σ3, fr_join ⟨rfl, trivial⟩, rfl, H.sel' [] rfl rfl⟩
 ·clear hj
  have h := h'
  clear h' H
  rintro e a w ⟨rfl, ρ, σ32, rfl, rfl, H⟩
  refine q_then (c_seq (rg (sm (I o1) rfl (sa (I o1) rfl (w_end (q_then (c_ret ?_)))))))
  obtain rfl := sj h
  exact fin_ret (v := (I o1)) (results_ok Tryz.results86 (res_tmp (v := (I o1)) rfl res_nil) rfl) ⟨rfl, rfl⟩ (H.sel' [] rfl rfl)

theorem c_spec_nearer {Aw : Int × Int} {Ax : Int × Int}  {r : Bool} (h : M.spec_nearer Aw Ax = some r) :
    Cal2 Tryz.prog 112 [(.agg #[(I Aw.1), (I Aw.2)]), (.agg #[(I Ax.1), (I Ax.2)])] [] (fun n0 v L => v = (B r) ∧ L = []) := by
 refine cal2 (n := 24) Tryz.func112 rfl rfl rfl rfl ?_
 intro S0 σ0 n0 hn0 H
 unfold M.spec_nearer at h
 refine c_seq (rg (st_ex (ex_box (cs := [(I Aw.1), (I Aw.2)]) H hn0 rfl rfl) wn ?_))
 rintro _ σ2 ⟨b1, rfl, H, -⟩
 refine st_ex (ex_box (cs := [(I Ax.1), (I Ax.2)]) H hn0 rfl rfl) wn ?_
 rintro _ σ4 ⟨b3, rfl, H, -⟩
 refine sa (B false) rfl (w_end (q_then (c_seq (rg (st (v := (pt b1 1)) (rv_fieldAddr (off := 1) (ft := 3) Tryz.underlying38 rfl ti3 rfl rfl) ?_)))))
 have hc5 := H.cell (u := (I Aw.2)) (o' := 1) 1 1 rfl rfl rfl
 refine st (v := (I Aw.2)) (rv_load1 Tryz.underlying3 rfl rfl hc5) (st (v := (pt b3 1)) (rv_fieldAddr (off := 1) (ft := 3) Tryz.underlying38 rfl ti3 rfl rfl) ?_)
 have hc6 := H.cell (u := (I Ax.2)) (o' := 1) 0 1 rfl rfl rfl
 refine st (v := (I Ax.2)) (rv_load1 Tryz.underlying3 rfl rfl hc6) (st (v := (B (decide (Aw.2 < Ax.2)))) (rv_lss (a := Aw.2) (b := Ax.2) rfl rfl) (sm (B (decide (Aw.2 < Ax.2))) rfl ?_))
 rcases Bool.eq_false_or_eq_true (decide (Aw.2 < Ax.2)) with hb7 | hb7
 ·replace h := bif_t hb7 h
  refine st_skip (congrArg some hb7) (st_skip (congrArg some hb7) (st_skip (congrArg some hb7) (st_skip (congrArg some hb7) (st_skip (congrArg some hb7) (st_skip (congrArg some hb7) (st_skip_u rfl (st_skip_u rfl (st_skip_u rfl (st_skip_u rfl (st_skip_u rfl (st_skip (congrArg some hb7) ?_)))))))))))
  refine st (v := (B true)) (rv_pick_t (congrArg B hb7) rfl) (sa (B true) rfl (w_end (q_then (c_ret ?_))))
  obtain rfl := sj h
  exact fin_ret (v := (B true)) (results_ok Tryz.results112 (res_tmp (v := (B true)) rfl res_nil) rfl) ⟨rfl, rfl⟩ (H.sel' [] rfl rfl)
 ·replace h := bif_f hb7 h
  refine st_g (v := (pt b1 1)) (congrArg some hb7) (rv_fieldAddr (off := 1) (ft := 3) Tryz.underlying38 rfl ti3 rfl rfl) ?_
  have hc8 := H.cell (u := (I Aw.2)) (o' := 1) 1 1 rfl rfl rfl
  refine st_g (v := (I Aw.2)) (congrArg some hb7) (rv_load1 Tryz.underlying3 rfl rfl hc8) (st_g (v := (pt b3 1)) (congrArg some hb7) (rv_fieldAddr (off := 1) (ft := 3) Tryz.underlying38 rfl ti3 rfl rfl) ?_)
  have hc9 := H.cell (u := (I Ax.2)) (o' := 1) 0 1 rfl rfl rfl
  refine st_g (v := (I Ax.2)) (congrArg some hb7) (rv_load1 Tryz.underlying3 rfl rfl hc9) (st_g (v := (B (Aw.2 == Ax.2))) (congrArg some hb7) (rv_eql (a := Aw.2) (b := Ax.2) rfl rfl) (st_g (v := (B (Aw.2 == Ax.2))) (congrArg some hb7) (rv_move rfl) ?_))
  rcases Bool.eq_false_or_eq_true (Aw.2 == Ax.2) with hb10 | hb10
  ·replace h := bif_t hb10 h
   refine st_g (v := (pt b1 0)) (congrArg some hb10) (rv_fieldAddr (off := 0) (ft := 3) Tryz.underlying38 rfl ti3 rfl rfl) ?_
   have hc11 := H.cell (u := (I Aw.1)) (o' := 0) 1 0 rfl rfl rfl
   refine st_g (v := (I Aw.1)) (congrArg some hb10) (rv_load1 Tryz.underlying3 rfl rfl hc11) (st_g (v := (pt b3 0)) (congrArg some hb10) (rv_fieldAddr (off := 0) (ft := 3) Tryz.underlying38 rfl ti3 rfl rfl) ?_)
   have hc12 := H.cell (u := (I Ax.1)) (o' := 0) 0 0 rfl rfl rfl
   refine st_g (v := (I Ax.1)) (congrArg some hb10) (rv_load1 Tryz.underlying3 rfl rfl hc12) (st_g (v := (B (decide (Aw.1 < Ax.1)))) (congrArg some hb10) (rv_lss (a := Aw.1) (b := Ax.1) rfl rfl) (st_g (v := (B (decide (Aw.1 < Ax.1)))) (congrArg some hb7) (rv_pick_t (congrArg B hb10) rfl) (st (v := (B (decide (Aw.1 < Ax.1)))) (rv_pick_f (congrArg B hb7) rfl) (sa (B (decide (Aw.1 < Ax.1))) rfl (w_end (q_then (c_ret ?_)))))))
   obtain rfl := sj h
   exact fin_ret (v := (B (decide (Aw.1 < Ax.1)))) (results_ok Tryz.results112 (res_tmp (v := (B (decide (Aw.1 < Ax.1)))) rfl res_nil) rfl) ⟨rfl, rfl⟩ (H.sel' [] rfl rfl)
  ·replace h := bif_f hb10 h
   refine st_skip (congrArg some hb10) (st_skip (congrArg some hb10) (st_skip (congrArg some hb10) (st_skip (congrArg some hb10) (st_skip (congrArg some hb10) (st_g (v := (B false)) (congrArg some hb7) (rv_pick_f (congrArg B hb10) rfl) (st (v := (B false)) (rv_pick_f (congrArg B hb7) rfl) (sa (B false) rfl (w_end (q_then (c_ret ?_))))))))))
   obtain rfl := sj h
   exact fin_ret (v := (B false)) (results_ok Tryz.results112 (res_tmp (v := (B false)) rfl res_nil) rfl) ⟨rfl, rfl⟩ (H.sel' [] rfl rfl)

theorem c_spec_hit {Ag : Int × (List Int) × Int} {Ao : Int} {Ap : List Int} {Ah : Option Addr} {Ai : Nat} {Ar : Option Addr} {As : Nat} {r : (Int × Int)} (h : M.spec_hit Ag Ao Ap = some r) :
    Cal2 Tryz.prog 123 [(.agg #[(I Ag.1), (Sl Ah Ag.2.1 Ai), (I Ag.2.2)]), (I Ao), (Sl Ar Ap As)] [Ch.ro 0 (Sl Ah Ag.2.1 Ai) Ag.2.1, Ch.ro 0 (Sl Ar Ap As) Ap] (fun n0 v L => v = (.agg #[(I r.1), (I r.2)]) ∧ L = []) := by
 refine cal2 (n := 15) Tryz.func123 rfl rfl rfl rfl ?_
 intro S0 σ0 n0 hn0 H
 unfold M.spec_hit at h
 refine c_seq (rg (st_ex (ex_box (cs := [(I Ag.1), (Sl Ah Ag.2.1 Ai), (I Ag.2.2)]) H hn0 rfl rfl) wn ?_))
 rintro _ σ2 ⟨b1, rfl, H, -⟩
 refine st_ex (ex_alloc (cs := [(I 0), (I 0)]) H hn0 ti38 rfl) wn ?_
 rintro _ σ4 ⟨b3, rfl, H, -⟩
 refine w_end (q_then (c_seq ?_))
 have hc5 := H.cell (u := (I Ag.1)) (o' := 0) 1 0 rfl rfl rfl
 have hc6 := H.cell (u := (Sl Ah Ag.2.1 Ai)) (o' := 1) 1 1 rfl rfl rfl
 revert h; refine br fun r7 hx8 h => ?_
 have hc9 := c_spec_dist (Bc := Ah) (Bd := Ai) (Be := Ar) (Bf := As) hx8
 have Hs := H
 refine rg2 (σ := σ4) (Nm := Unit) 7 [6] [[false], [true]] [[(0, 0), (1, 1)], [(0, 0), (1, 1)], [(0, 0)], [(0, 0)], [(0, 0)], [(0, 0)], [(0, 1)]] 1 [fun _ => fun σm => Hp S0 σ0 σm [Ch.bx n0 b3 0 [(I 0), (I 0)] [] [], Ch.bx n0 b1 0 [(I Ag.1), (Sl Ah Ag.2.1 Ai), (I Ag.2.2)] [] [], Ch.ro 0 (Sl Ah Ag.2.1 Ai) Ag.2.1, Ch.ro 0 (Sl Ar Ap As) Ap] ∧ Md (cov []) σ4 σm, fun _ => fun σm => Hp S0 σ0 σm [Ch.bx n0 b3 0 [(I 0), (I 0)] [] [], Ch.bx n0 b1 0 [(I Ag.1), (Sl Ah Ag.2.1 Ai), (I Ag.2.2)] [] [], Ch.ro 0 (Sl Ah Ag.2.1 Ai) Ag.2.1, Ch.ro 0 (Sl Ar Ap As) Ap] ∧ Md (cov []) σ4 σm] [fun _ => (pt b1 0), fun _ => (I Ag.1), fun _ => (I Ao), fun _ => (pt b1 1), fun _ => (Sl Ah Ag.2.1 Ai), fun _ => (Sl Ar Ap As), fun _ => (I r7)] () (by kernel_rfl) (by kernel_rfl) ?_ ?_ ?_
 ·intro σm m0
  exact ⟨H.grow (m0.mono fun _ h => h.elim), m0⟩
 ·refine ac rfl (by
    intro k _nm ρ σm hJ hoff hdep
    have e3 := look_off (N := 15) (hoff 3 rfl) rfl
    exact dp_v (v := (pt b1 0)) wn (rv_fieldAddr (off := 0) (ft := 3) Tryz.underlying79 rfl ti3 rfl e3) rfl hJ) ?_
  refine all_cons (by
    refine ⟨?_, ?_⟩
    ·intro _nm ρ σm hJ hoff hdep
     have e7 := hdep 0 rfl rfl 7 rfl
     obtain ⟨H, m⟩ := id hJ
     have hc5 := H.cell (u := (I Ag.1)) (o' := 0) 1 0 rfl rfl rfl
     exact dp_v (v := (I Ag.1)) wn (rv_load1 Tryz.underlying3 rfl e7 hc5) rfl hJ
    refine ⟨?_, ?_⟩
    ·intro _nm ρ σm hJ hoff hdep
     have e7 := hdep 0 rfl rfl 7 rfl
     obtain ⟨H, m⟩ := id hJ
     have hc5 := H.cell (u := (I Ag.1)) (o' := 0) 1 0 rfl rfl rfl
     exact dp_v (v := (I Ag.1)) wn (rv_load1 Tryz.underlying3 rfl e7 hc5) rfl hJ
    trivial) ?_
  refine ac rfl (by
    intro k _nm ρ σm hJ hoff hdep
    have e1 := look_off (N := 15) (hoff 1 rfl) rfl
    exact dp_v (v := (I Ao)) wn (rv_move e1) rfl hJ) ?_
  refine ac rfl (by
    intro k _nm ρ σm hJ hoff hdep
    have e3 := look_off (N := 15) (hoff 3 rfl) rfl
    exact dp_v (v := (pt b1 1)) wn (rv_fieldAddr (off := 1) (ft := 24) Tryz.underlying79 rfl ti24 rfl e3) rfl hJ) ?_
  refine all_cons (by
    refine ⟨?_, ?_⟩
    ·intro _nm ρ σm hJ hoff hdep
     have e10 := hdep 3 rfl rfl 10 rfl
     obtain ⟨H, m⟩ := id hJ
     have hc6 := H.cell (u := (Sl Ah Ag.2.1 Ai)) (o' := 1) 1 1 rfl rfl rfl
     exact dp_v (v := (Sl Ah Ag.2.1 Ai)) wn (rv_load1 Tryz.underlying24 rfl e10 hc6) rfl hJ
    trivial) ?_
  refine ac rfl (by
    intro k _nm ρ σm hJ hoff hdep
    have e2 := look_off (N := 15) (hoff 2 rfl) rfl
    exact dp_v (v := (Sl Ar Ap As)) wn (rv_move e2) rfl hJ) ?_
  refine all_cons (by
    refine ⟨?_, ?_⟩
    ·intro _nm ρ σm hJ hoff hdep
     have e9 : look 15 ρ 9 = (I Ao) := hdep 2 rfl rfl 9 rfl
     have e11 : look 15 ρ 11 = (Sl Ah Ag.2.1 Ai) := hdep 4 rfl rfl 11 rfl
     have e12 : look 15 ρ 12 = (Sl Ar Ap As) := hdep 5 rfl rfl 12 rfl
     obtain ⟨H, m⟩ := id hJ
     refine dp_cx wn (cx_call hc9 (ent_f hc9.fn (by show [look 15 ρ 9, look 15 ρ 11, look 15 ρ 12] = _; rw [e9, e11, e12])) hn0 (H.sel' [2, 3, 0, 1, 2, 3] rfl rfl : Hp S0 σ0 _ ([_, _] ++ _))) ?_
     rintro _ σq ⟨_, ⟨rfl, rfl⟩, H2, m2⟩
     exact ⟨_, (), rfl, rfl, ⟨H2.sel' [0, 1, 2, 3] rfl rfl, m.comp0 (m2.mono (fun i h => by simp [cov, Ch.ro] at h))⟩, stab [0, 1, 2, 3, 4, 5] (by kernel_rfl) ⟨rfl, rfl, rfl, rfl, rfl, rfl, trivial⟩⟩
    trivial) ?_
  exact all_nil
 ·intro _nm ρ σ10 hJ hoff hrel
  have e6 := look_off (N := 15) (hoff 6 rfl) rfl
  have e8 := hrel 1 rfl 8 rfl
  have e13 := hrel 6 rfl 13 rfl
  obtain ⟨H, -⟩ := (show Hp S0 σ0 σ10 [Ch.bx n0 b3 0 [(I 0), (I 0)] [] [], Ch.bx n0 b1 0 [(I Ag.1), (Sl Ah Ag.2.1 Ai), (I Ag.2.2)] [] [], Ch.ro 0 (Sl Ah Ag.2.1 Ai) Ag.2.1, Ch.ro 0 (Sl Ar Ap As) Ap] ∧ Md (cov []) σ4 σ10 from hJ)
  clear hJ Hs
  rw [fr_lookL (L := [(6, (pt b3 0)), (8, (I Ag.1)), (13, (I r7))]) ⟨e6, e8, e13, trivial⟩]
  clear hoff hrel e6 e8 e13
  refine st (v := (.agg #[(I Ag.1), (I r7)])) (rv_build (ps := [(0, (I Ag.1)), (1, (I r7))]) Tryz.underlying38 ti38 (bp38 Tryz.underlying38) rfl (by kernel_rfl)) ?_
  refine st_exS (ex_store_box (k := 0) (cs := [(I 0), (I 0)]) (vs := [(I Ag.1), (I r7)]) (cs' := [(I Ag.1), (I r7)]) H (i := 0) rfl ti38 rfl rfl rfl rfl rfl (Nat.le_of_ble_eq_true rfl) (by simp [plain]) rfl) wn ?_
  rintro σ11 ⟨H, -⟩
  refine w_end (q_then (c_ret ?_))
  obtain rfl := sj h
  exact fin_ret (v := (.agg #[(I Ag.1), (I r7)])) (results_ok Tryz.results123 (res_cell rfl (run_cellRes (cs := [(I Ag.1), (I r7)]) Tryz.underlying38 rfl ti38 rfl (H.cells 0 rfl)) res_nil) rfl) ⟨rfl, rfl⟩ (H.sel' [] rfl rfl)

theorem c_spec_byDist {Aj : List (Int × (List Int) × Int)} {Ao : Int} {Ap : List Int} {Ak : Option Addr} {Am : Nat} {Ar : Option Addr} {As : Nat} {r : (List (Int × (List Int) × Int))} (h : M.spec_byDist Aj Ao Ap = some r) :
    Cal2 Tryz.prog 103 [(Sl Ak Aj Am), (I Ao), (Sl Ar Ap As)] [Ch.ro 0 (Sl Ak Aj Am) Aj, Ch.ro 0 (Sl Ar Ap As) Ap] (fun n0 v L => ∃ (az1 : Option Addr), ∃ (cz2 : Nat), v = (Sl az1 r cz2) ∧ L = [Ch.own n0 0 (Sl az1 r cz2) r]) := by
 refine cal2 (n := 68) Tryz.func103 rfl rfl rfl rfl ?_
 intro S0 σ0 n0 hn0 H
 unfold M.spec_byDist at h
 refine c_seq (rg (sa (.slice none 0 0) rfl (w_end (q_then (c_seq (rg ?_))))))
 refine st_ex (ex_buildSlice (el := n0) (xs := ([] : List (Int × (List Int) × Int))) (ps := []) (cs := []) H hn0 Tryz.underlying23 ti79 rfl rfl (by kernel_rfl) (.nil) rfl) wn ?_
 rintro _ σ2 ⟨b1, rfl, H, -⟩
 refine sa (Sl (some ⟨b1, 0, none⟩) ([] : List (Int × (List Int) × Int)) 0) rfl (w_end (q_then (c_seq (c_seq (rg (sa (I 0) rfl (w_end (q_then ?_))))))))
 obtain ⟨o3, hj, h'⟩ := bind_some h
 clear h
 refine c_cut (fun e a w => e = .normal ∧ ∃ (ρ : Nat → Value) (σ : St) (aj1 : Option Addr) (cj2 : Nat), a = fr 68 (updL ρ [(7, (Sl aj1 o3 cj2))]) ∧ w = σ.w ∧ Hp S0 σ0 σ [Ch.own n0 0 (Sl aj1 o3 cj2) o3]) ?_ ?_
 ·clear h'
  rename _ = some o3 => h
  refine c_blk ?_
  replace H := H.ownLow 0 n0 0 rfl (Nat.le_refl _) (Nat.zero_le _)
  refine wp_loopM _ h (fun s4 a w => ∃ (ρ : Nat → Value) (σ : St) (aj1 : Option Addr) (cj2 : Nat), a = fr 68 (updL ρ [(0, (Sl Ak Aj Am)), (1, (I Ao)), (2, (Sl Ar Ap As)), (7, (Sl aj1 s4.1 cj2)), (8, (I s4.2))]) ∧ w = σ.w ∧ Hp S0 σ0 σ [Ch.ro 0 (Sl Ak Aj Am) Aj, Ch.ro 0 (Sl Ar Ap As) Ap, Ch.own n0 0 (Sl aj1 s4.1 cj2) s4.1]) ⟨_, σ2, (some ⟨b1, 0, none⟩), 0, fr_join ⟨rfl, rfl, rfl, rfl, rfl, trivial⟩, rfl, H.sel' [1, 2, 0] rfl rfl⟩ ?_
  clear h H
  rintro s4 a w o ⟨ρ, σ5, a6, c7, rfl, rfl, H⟩ h hres
  refine c_seq (c_seq (rg (sm (I s4.2) rfl (sm (Sl Ak Aj Am) rfl (st (v := (I (Aj.length : Int))) (rv_len Tryz.underlying23 rfl) (st (v := (B (decide (s4.2 < (Aj.length : Int))))) (rv_lss (a := s4.2) (b := (Aj.length : Int)) rfl rfl) (w_end (q_then ?_))))))))
  refine cd_cond (decide (s4.2 < (Aj.length : Int))) rfl (fun hb8 => ?_) (fun hb8 => ?_)
  ·replace h := bif_t hb8 h
   refine c_skip (q_then (c_seq (c_blk (c_seq (rg (sm (Sl a6 s4.1 c7) rfl (sm (Sl Ak Aj Am) rfl (sm (I s4.2) rfl ?_))))))))
   revert h; refine br fun x9 hx10 h => ?_
   obtain ⟨b12, o13, hi11, -⟩ := (H.ro 0 rfl).ix hx10
   refine st (v := (pt b12 o13)) (rv_ix Tryz.underlying23 ti79 rfl rfl hi11) ?_
   obtain ⟨_, ⟨_, _, rfl, rfl, ⟨_, _, rfl, ⟨_, rfl, hR18⟩, rfl⟩⟩, hl14, hc15⟩ := ((H.ro 0 rfl).at hx10 hi11).cells
   obtain ⟨a16, c17, rfl⟩ := hR18.isSl
   replace H := H.add (d := Ch.ro 0 (Sl a16 x9.2.1 c17) x9.2.1) hR18 (fun _ h => h)
   clear hR18
   refine st (v := (.agg #[(I x9.1), (Sl a16 x9.2.1 c17), (I x9.2.2)])) (rv_load Tryz.underlying79 rfl ti79 rfl hl14 hc15) ?_
   refine st_ex (ex_buildSlice (el := 0) (xs := ([(x9.1, x9.2.1, x9.2.2)] : List (Int × (List Int) × Int))) (ps := [(0, (.agg #[(I x9.1), (Sl a16 x9.2.1 c17), (I x9.2.2)]))]) (cs := [(I x9.1), (Sl a16 x9.2.1 c17), (I x9.2.2)]) H hn0 Tryz.underlying23 ti79 rfl rfl (by kernel_rfl) (.cons (c := [(I x9.1), (Sl a16 x9.2.1 c17), (I x9.2.2)]) ⟨[(I x9.1)], [(Sl a16 x9.2.1 c17), (I x9.2.2)], rfl, rfl, ⟨[(Sl a16 x9.2.1 c17)], [(I x9.2.2)], rfl, ⟨_, rfl, (H.ro 0 rfl)⟩, rfl⟩⟩ (.nil)) rfl) wn ?_
   rintro _ σ20 ⟨b19, rfl, H, -⟩
   revert h; refine br fun xs21 hx22 h => ?_
   refine st_ex (ex_append H (i := 4) rfl Tryz.underlying23 Tryz.underlying23 ti79 rfl rfl (by decide) (H.own 0 rfl).rd hx22 hn0 rfl rfl) wn ?_
   rintro _ σ25 ⟨a23, c24, rfl, H, -⟩
   refine sa (Sl a23 xs21 c24) rfl (w_end (q_then (c_seq (rg (sm (Sl a23 xs21 c24) rfl (st (v := (I (xs21.length : Int))) (rv_len Tryz.underlying23 rfl) (st (v := (I (w64 ((xs21.length : Int) - 1)))) (rv_sub (a := (xs21.length : Int)) (b := 1) rfl rfl) (sa (I (w64 ((xs21.length : Int) - 1))) rfl (w_end (q_then ?_))))))))))
   obtain ⟨o26, hj, h'⟩ := bind_some h
   clear h
   refine c_cut (fun e a w => e = .normal ∧ ∃ (ρ : Nat → Value) (σ : St), a = fr 68 (updL ρ [(0, (Sl Ak Aj Am)), (1, (I Ao)), (2, (Sl Ar Ap As)), (7, (Sl a23 o26 c24)), (8, (I s4.2))]) ∧ w = σ.w ∧ Hp S0 σ0 σ [Ch.ro 0 (Sl Ak Aj Am) Aj, Ch.ro 0 (Sl Ar Ap As) Ap, Ch.own n0 0 (Sl a23 o26 c24) o26] ∧ o26.length = xs21.length) ?_ ?_
   ·clear h'
    rename _ = some o26 => h
    refine c_blk (wp_loopM _ h (fun s27 a w => ∃ (ρ : Nat → Value) (σ : St), a = fr 68 (updL ρ [(0, (Sl Ak Aj Am)), (1, (I Ao)), (2, (Sl Ar Ap As)), (7, (Sl a23 s27.1 c24)), (8, (I s4.2)), (9, (I s27.2))]) ∧ w = σ.w ∧ Hp S0 σ0 σ [Ch.ro 0 (Sl Ak Aj Am) Aj, Ch.ro 0 (Sl Ar Ap As) Ap, Ch.own n0 0 (Sl a23 s27.1 c24) s27.1] ∧ s27.1.length = xs21.length) ⟨_, σ25, fr_join ⟨rfl, rfl, rfl, rfl, rfl, rfl, trivial⟩, rfl, H.sel' [3, 4, 0] rfl rfl, rfl⟩ ?_)
    clear h H
    rintro s27 a w o ⟨ρ, σ28, rfl, rfl, H, hn29⟩ h hres
    refine c_seq (c_seq ?_)
    obtain ⟨o30, hj, h'⟩ := bind_some h
    clear h
    refine c_cut (fun e a w => e = .normal ∧ ∃ (ρ : Nat → Value) (σ : St), a = fr 68 (updL ρ [(0, (Sl Ak Aj Am)), (1, (I Ao)), (2, (Sl Ar Ap As)), (7, (Sl a23 s27.1 c24)), (8, (I s4.2)), (9, (I s27.2)), (47, (B o30))]) ∧ w = σ.w ∧ Hp S0 σ0 σ [Ch.ro 0 (Sl Ak Aj Am) Aj, Ch.ro 0 (Sl Ar Ap As) Ap, Ch.own n0 0 (Sl a23 s27.1 c24) s27.1]) ?_ ?_
    ·clear h'
     rename _ = some o30 => h
     rcases Bool.eq_false_or_eq_true (decide (0 < s27.2)) with hb31 | hb31
     ·replace h := bif_t hb31 h
      revert h; refine br fun x32 hx33 h => ?_
      obtain ⟨b35, o36, hi34, -⟩ := (H.own 2 rfl).ix hx33
      obtain ⟨_, ⟨_, _, rfl, rfl, ⟨_, _, rfl, ⟨_, rfl, hR41⟩, rfl⟩⟩, hl37, hc38⟩ := ((H.own 2 rfl).at hx33 hi34).cells
      obtain ⟨a39, c40, rfl⟩ := hR41.isSl
      replace H := H.add (d := Ch.ro 0 (Sl a39 x32.2.1 c40) x32.2.1) hR41 (fun _ h => h)
      clear hR41
      revert h; refine br fun r42 hx43 h => ?_
      have hc44 := c_spec_hit (Ah := a39) (Ai := c40) (Ar := Ar) (As := As) hx43
      revert h; refine br fun x45 hx46 h => ?_
      obtain ⟨b48, o49, hi47, -⟩ := (H.own 3 rfl).ix hx46
      obtain ⟨_, ⟨_, _, rfl, rfl, ⟨_, _, rfl, ⟨_, rfl, hR54⟩, rfl⟩⟩, hl50, hc51⟩ := ((H.own 3 rfl).at hx46 hi47).cells
      obtain ⟨a52, c53, rfl⟩ := hR54.isSl
      replace H := H.add (d := Ch.ro 0 (Sl a52 x45.2.1 c53) x45.2.1) hR54 (fun _ h => h)
      clear hR54
      have Hs := H
      refine rg2 (σ := σ28) (Nm := Unit) 17 [9] [[false], [true]] [[(0, 0)], [(0, 0)], [(0, 0)], [(0, 0)], [(0, 0)], [(0, 0)], [(0, 0)], [(0, 0)], [(0, 0)], [(0, 1)], [(0, 0), (1, 1)], [(0, 0), (1, 1)], [(0, 0), (1, 1)], [(0, 0), (1, 1)], [(0, 0), (1, 1)], [(0, 0), (1, 1)], [(0, 0), (1, 1)]] 1 [fun _ => fun σm => Hp S0 σ0 σm [Ch.ro 0 (Sl a52 x45.2.1 c53) x45.2.1, Ch.ro 0 (Sl a39 x32.2.1 c40) x32.2.1, Ch.ro 0 (Sl Ak Aj Am) Aj, Ch.ro 0 (Sl Ar Ap As) Ap, Ch.own n0 0 (Sl a23 s27.1 c24) s27.1] ∧ Md (cov []) σ28 σm, fun _ => fun σm => Hp S0 σ0 σm [Ch.ro 0 (Sl a52 x45.2.1 c53) x45.2.1, Ch.ro 0 (Sl a39 x32.2.1 c40) x32.2.1, Ch.ro 0 (Sl Ak Aj Am) Aj, Ch.ro 0 (Sl Ar Ap As) Ap, Ch.own n0 0 (Sl a23 s27.1 c24) s27.1] ∧ Md (cov []) σ28 σm] [fun _ => (I s27.2), fun _ => (B (decide (0 < s27.2))), fun _ => (B (decide (0 < s27.2))), fun _ => (Sl a23 s27.1 c24), fun _ => (I s27.2), fun _ => (pt b35 o36), fun _ => (.agg #[(I x32.1), (Sl a39 x32.2.1 c40), (I x32.2.2)]), fun _ => (I Ao), fun _ => (Sl Ar Ap As), fun _ => (.agg #[(I r42.1), (I r42.2)]), fun _ => (Sl a23 s27.1 c24), fun _ => (I s27.2), fun _ => (I (w64 (s27.2 - 1))), fun _ => (pt b48 o49), fun _ => (.agg #[(I x45.1), (Sl a52 x45.2.1 c53), (I x45.2.2)]), fun _ => (I Ao), fun _ => (Sl Ar Ap As)] () (by kernel_rfl) (by kernel_rfl) ?_ ?_ ?_
      ·intro σm m0
       exact ⟨H.grow (m0.mono fun _ h => h.elim), m0⟩
      ·refine ac rfl (by
         intro k _nm ρ σm hJ hoff hdep
         have e9 := look_off (N := 68) (hoff 9 rfl) rfl
         exact dp_v (v := (I s27.2)) wn (rv_move e9) rfl hJ) ?_
       refine ac rfl (by
         intro k _nm ρ σm hJ hoff hdep
         have e28 := hdep 0 rfl rfl 28 rfl
         exact dp_v (v := (B (decide (0 < s27.2)))) wn (rv_gtr (a := s27.2) (b := 0) e28 rfl) rfl hJ) ?_
       refine ac rfl (by
         intro k _nm ρ σm hJ hoff hdep
         have e29 := hdep 1 rfl rfl 29 rfl
         exact dp_v (v := (B (decide (0 < s27.2)))) wn (rv_move e29) rfl hJ) ?_
       refine ac rfl (by
         intro k _nm ρ σm hJ hoff hdep
         have e7 := look_off (N := 68) (hoff 7 rfl) rfl
         have e30 := hdep 2 rfl rfl 30 rfl
         exact dp_v (v := (Sl a23 s27.1 c24)) (wanted_yes rfl (yv_of rfl (e30.trans (congrArg B hb31)))) (rv_move e7) rfl hJ) ?_
       refine ac rfl (by
         intro k _nm ρ σm hJ hoff hdep
         have e9 := look_off (N := 68) (hoff 9 rfl) rfl
         have e30 := hdep 2 rfl rfl 30 rfl
         exact dp_v (v := (I s27.2)) (wanted_yes rfl (yv_of rfl (e30.trans (congrArg B hb31)))) (rv_move e9) rfl hJ) ?_
       refine ac rfl (by
         intro k _nm ρ σm hJ hoff hdep
         have e31 := hdep 3 rfl rfl 31 rfl
         have e32 := hdep 4 rfl rfl 32 rfl
         have e30 := hdep 2 rfl rfl 30 rfl
         exact dp_v (v := (pt b35 o36)) (wanted_yes rfl (yv_of rfl (e30.trans (congrArg B hb31)))) (rv_ix Tryz.underlying23 ti79 e31 e32 hi34) rfl hJ) ?_
       refine all_cons (by
         refine ⟨?_, ?_⟩
         ·intro _nm ρ σm hJ hoff hdep
          have e33 := hdep 5 rfl rfl 33 rfl
          have e30 := hdep 2 rfl rfl 30 rfl
          obtain ⟨H, m⟩ := id hJ
          replace hc38 := fun j hj => m.hcell (hc38 j hj) nocov
          exact dp_v (v := (.agg #[(I x32.1), (Sl a39 x32.2.1 c40), (I x32.2.2)])) (wanted_yes rfl (yv_of rfl (e30.trans (congrArg B hb31)))) (rv_load Tryz.underlying79 rfl ti79 e33 hl37 hc38) rfl hJ
         trivial) ?_
       refine ac rfl (by
         intro k _nm ρ σm hJ hoff hdep
         have e1 := look_off (N := 68) (hoff 1 rfl) rfl
         have e30 := hdep 2 rfl rfl 30 rfl
         exact dp_v (v := (I Ao)) (wanted_yes rfl (yv_of rfl (e30.trans (congrArg B hb31)))) (rv_move e1) rfl hJ) ?_
       refine ac rfl (by
         intro k _nm ρ σm hJ hoff hdep
         have e2 := look_off (N := 68) (hoff 2 rfl) rfl
         have e30 := hdep 2 rfl rfl 30 rfl
         exact dp_v (v := (Sl Ar Ap As)) (wanted_yes rfl (yv_of rfl (e30.trans (congrArg B hb31)))) (rv_move e2) rfl hJ) ?_
       refine all_cons (by
         refine ⟨?_, ?_⟩
         ·intro _nm ρ σm hJ hoff hdep
          have e34 : look 68 ρ 34 = (.agg #[(I x32.1), (Sl a39 x32.2.1 c40), (I x32.2.2)]) := hdep 6 rfl rfl 34 rfl
          have e35 : look 68 ρ 35 = (I Ao) := hdep 7 rfl rfl 35 rfl
          have e36 : look 68 ρ 36 = (Sl Ar Ap As) := hdep 8 rfl rfl 36 rfl
          have e30 := hdep 2 rfl rfl 30 rfl
          obtain ⟨H, m⟩ := id hJ
          refine dp_cx (wanted_yes rfl (yv_of rfl (e30.trans (congrArg B hb31)))) (cx_call hc44 (ent_f hc44.fn (by show [look 68 ρ 34, look 68 ρ 35, look 68 ρ 36] = _; rw [e34, e35, e36])) hn0 (H.sel' [1, 3, 0, 1, 2, 3, 4] rfl rfl : Hp S0 σ0 _ ([_, _] ++ _))) ?_
          rintro _ σq ⟨_, ⟨rfl, rfl⟩, H2, m2⟩
          exact ⟨_, (), rfl, rfl, ⟨H2.sel' [0, 1, 2, 3, 4] rfl rfl, m.comp0 (m2.mono (fun i h => by simp [cov, Ch.ro] at h))⟩, stab [0, 1, 2, 3, 4, 5, 6, 7, 8, 10, 11, 12, 13, 14, 15, 16] (by kernel_rfl) ⟨rfl, rfl, rfl, rfl, rfl, rfl, rfl, rfl, rfl, rfl, rfl, rfl, rfl, rfl, rfl, rfl, trivial⟩⟩
         trivial) ?_
       refine ac rfl (by
         intro k _nm ρ σm hJ hoff hdep
         have e7 := look_off (N := 68) (hoff 7 rfl) rfl
         have e30 := hdep 2 rfl rfl 30 rfl
         exact dp_v (v := (Sl a23 s27.1 c24)) (wanted_yes rfl (yv_of rfl (e30.trans (congrArg B hb31)))) (rv_move e7) rfl hJ) ?_
       refine ac rfl (by
         intro k _nm ρ σm hJ hoff hdep
         have e9 := look_off (N := 68) (hoff 9 rfl) rfl
         have e30 := hdep 2 rfl rfl 30 rfl
         exact dp_v (v := (I s27.2)) (wanted_yes rfl (yv_of rfl (e30.trans (congrArg B hb31)))) (rv_move e9) rfl hJ) ?_
       refine ac rfl (by
         intro k _nm ρ σm hJ hoff hdep
         have e39 := hdep 11 rfl rfl 39 rfl
         have e30 := hdep 2 rfl rfl 30 rfl
         exact dp_v (v := (I (w64 (s27.2 - 1)))) (wanted_yes rfl (yv_of rfl (e30.trans (congrArg B hb31)))) (rv_sub (a := s27.2) (b := 1) e39 rfl) rfl hJ) ?_
       refine ac rfl (by
         intro k _nm ρ σm hJ hoff hdep
         have e38 := hdep 10 rfl rfl 38 rfl
         have e40 := hdep 12 rfl rfl 40 rfl
         have e30 := hdep 2 rfl rfl 30 rfl
         exact dp_v (v := (pt b48 o49)) (wanted_yes rfl (yv_of rfl (e30.trans (congrArg B hb31)))) (rv_ix Tryz.underlying23 ti79 e38 e40 hi47) rfl hJ) ?_
       refine all_cons (by
         refine ⟨?_, ?_⟩
         ·intro _nm ρ σm hJ hoff hdep
          have e41 := hdep 13 rfl rfl 41 rfl
          have e30 := hdep 2 rfl rfl 30 rfl
          obtain ⟨H, m⟩ := id hJ
          replace hc51 := fun j hj => m.hcell (hc51 j hj) nocov
          exact dp_v (v := (.agg #[(I x45.1), (Sl a52 x45.2.1 c53), (I x45.2.2)])) (wanted_yes rfl (yv_of rfl (e30.trans (congrArg B hb31)))) (rv_load Tryz.underlying79 rfl ti79 e41 hl50 hc51) rfl hJ
         refine ⟨?_, ?_⟩
         ·intro _nm ρ σm hJ hoff hdep
          have e41 := hdep 13 rfl rfl 41 rfl
          have e30 := hdep 2 rfl rfl 30 rfl
          obtain ⟨H, m⟩ := id hJ
          replace hc51 := fun j hj => m.hcell (hc51 j hj) nocov
          exact dp_v (v := (.agg #[(I x45.1), (Sl a52 x45.2.1 c53), (I x45.2.2)])) (wanted_yes rfl (yv_of rfl (e30.trans (congrArg B hb31)))) (rv_load Tryz.underlying79 rfl ti79 e41 hl50 hc51) rfl hJ
         trivial) ?_
       refine ac rfl (by
         intro k _nm ρ σm hJ hoff hdep
         have e1 := look_off (N := 68) (hoff 1 rfl) rfl
         have e30 := hdep 2 rfl rfl 30 rfl
         exact dp_v (v := (I Ao)) (wanted_yes rfl (yv_of rfl (e30.trans (congrArg B hb31)))) (rv_move e1) rfl hJ) ?_
       refine ac rfl (by
         intro k _nm ρ σm hJ hoff hdep
         have e2 := look_off (N := 68) (hoff 2 rfl) rfl
         have e30 := hdep 2 rfl rfl 30 rfl
         exact dp_v (v := (Sl Ar Ap As)) (wanted_yes rfl (yv_of rfl (e30.trans (congrArg B hb31)))) (rv_move e2) rfl hJ) ?_
       exact all_nil
      ·intro _nm ρ σ55 hJ hoff hrel
       have e0 := look_off (N := 68) (hoff 0 rfl) rfl
       have e1 := look_off (N := 68) (hoff 1 rfl) rfl
       have e2 := look_off (N := 68) (hoff 2 rfl) rfl
       have e7 := look_off (N := 68) (hoff 7 rfl) rfl
       have e8 := look_off (N := 68) (hoff 8 rfl) rfl
       have e9 := look_off (N := 68) (hoff 9 rfl) rfl
       have e30 := hrel 2 rfl 30 rfl
       have e37 := hrel 9 rfl 37 rfl
       have e42 := hrel 14 rfl 42 rfl
       have e43 := hrel 15 rfl 43 rfl
       have e44 := hrel 16 rfl 44 rfl
       obtain ⟨H, -⟩ := (show Hp S0 σ0 σ55 [Ch.ro 0 (Sl a52 x45.2.1 c53) x45.2.1, Ch.ro 0 (Sl a39 x32.2.1 c40) x32.2.1, Ch.ro 0 (Sl Ak Aj Am) Aj, Ch.ro 0 (Sl Ar Ap As) Ap, Ch.own n0 0 (Sl a23 s27.1 c24) s27.1] ∧ Md (cov []) σ28 σ55 from hJ)
       clear hJ Hs
       rw [fr_lookL (L := [(0, (Sl Ak Aj Am)), (1, (I Ao)), (2, (Sl Ar Ap As)), (7, (Sl a23 s27.1 c24)), (8, (I s4.2)), (9, (I s27.2)), (30, (B (decide (0 < s27.2)))), (37, (.agg #[(I r42.1), (I r42.2)])), (42, (.agg #[(I x45.1), (Sl a52 x45.2.1 c53), (I x45.2.2)])), (43, (I Ao)), (44, (Sl Ar Ap As))]) ⟨e0, e1, e2, e7, e8, e9, e30, e37, e42, e43, e44, trivial⟩]
       clear hoff hrel e0 e1 e2 e7 e8 e9 e30 e37 e42 e43 e44
       revert h; refine br fun r56 hx57 h => ?_
       have hc58 := c_spec_hit (Ah := a52) (Ai := c53) (Ar := Ar) (As := As) hx57
       refine st_call (cx_call hc58 (ent_f hc58.fn rfl) hn0 (H.sel' [0, 3, 0, 1, 2, 3, 4] rfl rfl : Hp S0 σ0 _ ([_, _] ++ _))) (wanted_yes rfl (by exact (congrArg some hb31))) ?_
       rintro _ σ59 ⟨_, ⟨rfl, rfl⟩, H, -⟩
       replace H : Hp _ _ _ [_, _, _, _, _] := H
       revert h; refine br fun r60 hx61 h => ?_
       have hc62 := c_spec_nearer hx61
       refine st_call (cx_call hc62 (ent_f hc62.fn rfl) hn0 (H.sel' [0, 1, 2, 3, 4] rfl rfl : Hp S0 σ0 _ ([] ++ _))) (wanted_yes rfl (by exact (congrArg some hb31))) ?_
       rintro _ σ63 ⟨_, ⟨rfl, rfl⟩, H, -⟩
       replace H : Hp _ _ _ [_, _, _, _, _] := H
       refine st (v := (B r60)) (rv_pick_t (congrArg B hb31) rfl) (w_end ?_)
       obtain rfl := sj h
       exact ⟨rfl, _, σ63, fr_join ⟨rfl, rfl, rfl, rfl, rfl, rfl, rfl, trivial⟩, rfl, H.sel' [2, 3, 4] rfl rfl⟩
     ·replace h := bif_f hb31 h
      have Hs := H
      refine rg2 (σ := σ28) (Nm := Unit) 17 [] [[]] [[(0, 0)], [(0, 0)], [(0, 0)], [(0, 0)], [(0, 0)], [(0, 0)], [(0, 0)], [(0, 0)], [(0, 0)], [(0, 0)], [(0, 0)], [(0, 0)], [(0, 0)], [(0, 0)], [(0, 0)], [(0, 0)], [(0, 0)]] 0 [fun _ => fun σm => Hp S0 σ0 σm [Ch.ro 0 (Sl Ak Aj Am) Aj, Ch.ro 0 (Sl Ar Ap As) Ap, Ch.own n0 0 (Sl a23 s27.1 c24) s27.1] ∧ Md (cov []) σ28 σm] [fun _ => (I s27.2), fun _ => (B (decide (0 < s27.2))), fun _ => (B (decide (0 < s27.2))), fun _ => undef, fun _ => undef, fun _ => undef, fun _ => undef, fun _ => undef, fun _ => undef, fun _ => undef, fun _ => undef, fun _ => undef, fun _ => undef, fun _ => undef, fun _ => undef, fun _ => undef, fun _ => undef] () (by kernel_rfl) (by kernel_rfl) ?_ ?_ ?_
      ·intro σm m0
       exact ⟨H.grow (m0.mono fun _ h => h.elim), m0⟩
      ·refine ac rfl (by
         intro k _nm ρ σm hJ hoff hdep
         have e9 := look_off (N := 68) (hoff 9 rfl) rfl
         exact dp_v (v := (I s27.2)) wn (rv_move e9) rfl hJ) ?_
       refine ac rfl (by
         intro k _nm ρ σm hJ hoff hdep
         have e28 := hdep 0 rfl rfl 28 rfl
         exact dp_v (v := (B (decide (0 < s27.2)))) wn (rv_gtr (a := s27.2) (b := 0) e28 rfl) rfl hJ) ?_
       refine ac rfl (by
         intro k _nm ρ σm hJ hoff hdep
         have e29 := hdep 1 rfl rfl 29 rfl
         exact dp_v (v := (B (decide (0 < s27.2)))) wn (rv_move e29) rfl hJ) ?_
       refine ac rfl (by
         intro k _nm ρ σm hJ hoff hdep
         have e30 := hdep 2 rfl rfl 30 rfl
         exact dp_skip (wanted_no rfl (yv_of rfl (e30.trans (congrArg B hb31)))) rfl hJ) ?_
       refine ac rfl (by
         intro k _nm ρ σm hJ hoff hdep
         have e30 := hdep 2 rfl rfl 30 rfl
         exact dp_skip (wanted_no rfl (yv_of rfl (e30.trans (congrArg B hb31)))) rfl hJ) ?_
       refine ac rfl (by
         intro k _nm ρ σm hJ hoff hdep
         have e30 := hdep 2 rfl rfl 30 rfl
         exact dp_skip (wanted_no rfl (yv_of rfl (e30.trans (congrArg B hb31)))) rfl hJ) ?_
       refine ac rfl (by
         intro k _nm ρ σm hJ hoff hdep
         have e30 := hdep 2 rfl rfl 30 rfl
         exact dp_skip (wanted_no rfl (yv_of rfl (e30.trans (congrArg B hb31)))) rfl hJ) ?_
       refine ac rfl (by
         intro k _nm ρ σm hJ hoff hdep
         have e30 := hdep 2 rfl rfl 30 rfl
         exact dp_skip (wanted_no rfl (yv_of rfl (e30.trans (congrArg B hb31)))) rfl hJ) ?_
       refine ac rfl (by
         intro k _nm ρ σm hJ hoff hdep
         have e30 := hdep 2 rfl rfl 30 rfl
         exact dp_skip (wanted_no rfl (yv_of rfl (e30.trans (congrArg B hb31)))) rfl hJ) ?_
       refine ac rfl (by
         intro k _nm ρ σm hJ hoff hdep
         have e30 := hdep 2 rfl rfl 30 rfl
         exact dp_skip (wanted_no rfl (yv_of rfl (e30.trans (congrArg B hb31)))) rfl hJ) ?_
       refine ac rfl (by
         intro k _nm ρ σm hJ hoff hdep
         have e30 := hdep 2 rfl rfl 30 rfl
         exact dp_skip (wanted_no rfl (yv_of rfl (e30.trans (congrArg B hb31)))) rfl hJ) ?_
       refine ac rfl (by
         intro k _nm ρ σm hJ hoff hdep
         have e30 := hdep 2 rfl rfl 30 rfl
         exact dp_skip (wanted_no rfl (yv_of rfl (e30.trans (congrArg B hb31)))) rfl hJ) ?_
       refine ac rfl (by
         intro k _nm ρ σm hJ hoff hdep
         have e30 := hdep 2 rfl rfl 30 rfl
         exact dp_skip (wanted_no rfl (yv_of rfl (e30.trans (congrArg B hb31)))) rfl hJ) ?_
       refine ac rfl (by
         intro k _nm ρ σm hJ hoff hdep
         have e30 := hdep 2 rfl rfl 30 rfl
         exact dp_skip (wanted_no rfl (yv_of rfl (e30.trans (congrArg B hb31)))) rfl hJ) ?_
       refine ac rfl (by
         intro k _nm ρ σm hJ hoff hdep
         have e30 := hdep 2 rfl rfl 30 rfl
         exact dp_skip (wanted_no rfl (yv_of rfl (e30.trans (congrArg B hb31)))) rfl hJ) ?_
       refine ac rfl (by
         intro k _nm ρ σm hJ hoff hdep
         have e30 := hdep 2 rfl rfl 30 rfl
         exact dp_skip (wanted_no rfl (yv_of rfl (e30.trans (congrArg B hb31)))) rfl hJ) ?_
       refine ac rfl (by
         intro k _nm ρ σm hJ hoff hdep
         have e30 := hdep 2 rfl rfl 30 rfl
         exact dp_skip (wanted_no rfl (yv_of rfl (e30.trans (congrArg B hb31)))) rfl hJ) ?_
       exact all_nil
      ·intro _nm ρ σ64 hJ hoff hrel
       have e0 := look_off (N := 68) (hoff 0 rfl) rfl
       have e1 := look_off (N := 68) (hoff 1 rfl) rfl
       have e2 := look_off (N := 68) (hoff 2 rfl) rfl
       have e7 := look_off (N := 68) (hoff 7 rfl) rfl
       have e8 := look_off (N := 68) (hoff 8 rfl) rfl
       have e9 := look_off (N := 68) (hoff 9 rfl) rfl
       have e30 := hrel 2 rfl 30 rfl
       have e37 := hrel 9 rfl 37 rfl
       have e42 := hrel 14 rfl 42 rfl
       have e43 := hrel 15 rfl 43 rfl
       have e44 := hrel 16 rfl 44 rfl
       obtain ⟨H, -⟩ := (show Hp S0 σ0 σ64 [Ch.ro 0 (Sl Ak Aj Am) Aj, Ch.ro 0 (Sl Ar Ap As) Ap, Ch.own n0 0 (Sl a23 s27.1 c24) s27.1] ∧ Md (cov []) σ28 σ64 from hJ)
       clear hJ Hs
       rw [fr_lookL (L := [(0, (Sl Ak Aj Am)), (1, (I Ao)), (2, (Sl Ar Ap As)), (7, (Sl a23 s27.1 c24)), (8, (I s4.2)), (9, (I s27.2)), (30, (B (decide (0 < s27.2)))), (37, undef), (42, undef), (43, undef), (44, undef)]) ⟨e0, e1, e2, e7, e8, e9, e30, e37, e42, e43, e44, trivial⟩]
       clear hoff hrel e0 e1 e2 e7 e8 e9 e30 e37 e42 e43 e44
       refine st_skip (congrArg some hb31) (st_skip (congrArg some hb31) (st (v := (B false)) (rv_pick_f (congrArg B hb31) rfl) (w_end ?_)))
       obtain rfl := sj h
       exact ⟨rfl, _, σ64, fr_join ⟨rfl, rfl, rfl, rfl, rfl, rfl, rfl, trivial⟩, rfl, H.sel' [0, 1, 2] rfl rfl⟩
    ·clear hj
     have h := h'
     clear h' H
     rintro e a w ⟨rfl, ρ, σ65, rfl, rfl, H⟩
     refine q_then ?_
     refine cd_cond o30 rfl (fun hb66 => ?_) (fun hb66 => ?_)
     ·replace h := bif_t hb66 h
      refine c_skip (q_then (c_seq (c_blk (c_seq (rg (sm (Sl a23 s27.1 c24) rfl (sm (I s27.2) rfl ?_)))))))
      revert h; refine br fun x67 hx68 h => ?_
      obtain ⟨b70, o71, hi69, -⟩ := (H.own 2 rfl).ix hx68
      refine st (v := (pt b70 o71)) (rv_ix Tryz.underlying23 ti79 rfl rfl hi69) ?_
      obtain ⟨_, ⟨_, _, rfl, rfl, ⟨_, _, rfl, ⟨_, rfl, hR76⟩, rfl⟩⟩, hl72, hc73⟩ := ((H.own 2 rfl).at hx68 hi69).cells
      obtain ⟨a74, c75, rfl⟩ := hR76.isSl
      replace H := H.add (d := Ch.ro 0 (Sl a74 x67.2.1 c75) x67.2.1) hR76 (fun _ h => h)
      clear hR76
      refine st (v := (.agg #[(I x67.1), (Sl a74 x67.2.1 c75), (I x67.2.2)])) (rv_load Tryz.underlying79 rfl ti79 rfl hl72 hc73) (st_ex (ex_alloc (cs := [(I 0), (.slice none 0 0), (I 0)]) H hn0 ti79 rfl) wn ?_)
      rintro _ σ78 ⟨b77, rfl, H, -⟩
      refine st_exS (ex_store_box (k := 0) (cs := [(I 0), (.slice none 0 0), (I 0)]) (vs := [(I x67.1), (Sl a74 x67.2.1 c75), (I x67.2.2)]) (cs' := [(I x67.1), (Sl a74 x67.2.1 c75), (I x67.2.2)]) H (i := 0) rfl ti79 rfl rfl rfl rfl rfl (Nat.le_of_ble_eq_true rfl) (by simp [plain]) rfl) wn ?_
      rintro σ79 ⟨H, -⟩
      refine w_end (q_then (c_seq (rg (sm (Sl a23 s27.1 c24) rfl (sm (I s27.2) rfl (sm (Sl a23 s27.1 c24) rfl (sm (I s27.2) rfl (st (v := (I (w64 (s27.2 - 1)))) (rv_sub (a := s27.2) (b := 1) rfl rfl) ?_))))))))
      revert h; refine br fun x80 hx81 h => ?_
      obtain ⟨b83, o84, hi82, -⟩ := (H.own 4 rfl).ix hx81
      refine st (v := (pt b83 o84)) (rv_ix Tryz.underlying23 ti79 rfl rfl hi82) ?_
      obtain ⟨_, ⟨_, _, rfl, rfl, ⟨_, _, rfl, ⟨_, rfl, hR89⟩, rfl⟩⟩, hl85, hc86⟩ := ((H.own 4 rfl).at hx81 hi82).cells
      obtain ⟨a87, c88, rfl⟩ := hR89.isSl
      replace H := H.add (d := Ch.ro 0 (Sl a87 x80.2.1 c88) x80.2.1) hR89 (fun _ h => h)
      clear hR89
      refine st (v := (.agg #[(I x80.1), (Sl a87 x80.2.1 c88), (I x80.2.2)])) (rv_load Tryz.underlying79 rfl ti79 rfl hl85 hc86) ?_
      revert h; refine br fun x90 hx91 h => ?_
      obtain ⟨b93, o94, hi92, -⟩ := (H.own 5 rfl).ix hx91
      refine st (v := (pt b93 o94)) (rv_ix Tryz.underlying23 ti79 rfl rfl hi92) ?_
      refine st_exS (ex_store_own (e' := (x80.1, x80.2.1, x80.2.2)) (vs := [(I x80.1), (Sl a87 x80.2.1 c88), (I x80.2.2)]) (k := 0) H (i := 5) rfl ti79 hx91 hi92 rfl rfl rfl rfl rfl (Nat.le_of_ble_eq_true rfl) (by simp [plain]) (by rintro _ ⟨_, _, rfl, rfl, ⟨_, _, rfl, ⟨_, rfl, hR97⟩, rfl⟩⟩; exact ⟨[(I x80.1)], [(Sl a87 x80.2.1 c88), (I x80.2.2)], rfl, rfl, ⟨[(Sl a87 x80.2.1 c88)], [(I x80.2.2)], rfl, ⟨_, rfl, (H.ro 0 rfl)⟩, rfl⟩⟩)) wn ?_
      rintro σ98 ⟨H, -⟩
      have hsl : (Sl a23 s27.1 c24) = (Sl a23 (s27.1.set s27.2.toNat (x80.1, x80.2.1, x80.2.2)) c24) := sl_len List.length_set.symm
      rw [hsl]; rw [hsl] at H; clear hsl
      refine w_end (q_then (rg (sm (Sl a23 (s27.1.set s27.2.toNat (x80.1, x80.2.1, x80.2.2)) c24) rfl (sm (I s27.2) rfl (st (v := (I (w64 (s27.2 - 1)))) (rv_sub (a := s27.2) (b := 1) rfl rfl) ?_)))))
      have hc99 := H.cells 2 rfl
      refine st (v := (.agg #[(I x67.1), (Sl a74 x67.2.1 c75), (I x67.2.2)])) (rv_load (cs := [(I x67.1), (Sl a74 x67.2.1 c75), (I x67.2.2)]) Tryz.underlying79 rfl ti79 rfl rfl hc99) ?_
      revert h; refine br fun x100 hx101 h => ?_
      obtain ⟨b103, o104, hi102, -⟩ := (H.own 0 rfl).ix hx101
      refine st (v := (pt b103 o104)) (rv_ix Tryz.underlying23 ti79 rfl rfl hi102) ?_
      refine st_exS (ex_store_own (e' := (x67.1, x67.2.1, x67.2.2)) (vs := [(I x67.1), (Sl a74 x67.2.1 c75), (I x67.2.2)]) (k := 0) H (i := 0) rfl ti79 hx101 hi102 rfl rfl rfl rfl rfl (Nat.le_of_ble_eq_true rfl) (by simp [plain]) (by rintro _ ⟨_, _, rfl, rfl, ⟨_, _, rfl, ⟨_, rfl, hR107⟩, rfl⟩⟩; exact ⟨[(I x67.1)], [(Sl a74 x67.2.1 c75), (I x67.2.2)], rfl, rfl, ⟨[(Sl a74 x67.2.1 c75)], [(I x67.2.2)], rfl, ⟨_, rfl, (H.ro 3 rfl)⟩, rfl⟩⟩)) wn ?_
      rintro σ108 ⟨H, -⟩
      have hsl : (Sl a23 (s27.1.set s27.2.toNat (x80.1, x80.2.1, x80.2.2)) c24) = (Sl a23 ((s27.1.set s27.2.toNat (x80.1, x80.2.1, x80.2.2)).set (w64 (s27.2 - 1)).toNat (x67.1, x67.2.1, x67.2.2)) c24) := sl_len List.length_set.symm
      rw [hsl]; rw [hsl] at H; clear hsl
      refine w_end (q_blk (q_then (rg (sm (I s27.2) rfl (st (v := (I (w64 (s27.2 - 1)))) (rv_sub (a := s27.2) (b := 1) rfl rfl) (sa (I (w64 (s27.2 - 1))) rfl (w_end (q_then ?_))))))))
      obtain rfl := sj h
      exact ⟨_, rfl, _, σ108, fr_join ⟨rfl, rfl, rfl, rfl, rfl, rfl, trivial⟩, rfl, H.sel' [4, 5, 0] rfl rfl, (List.length_set.trans (List.length_set.trans hn29))⟩
     ·replace h := bif_f hb66 h
      refine c_exit (q_then_x (q_then_x (q_blk_hit ?_)))
      obtain rfl := sj h
      obtain rfl := hres _ rfl
      exact ⟨rfl, _, σ65, fr_join ⟨rfl, rfl, rfl, rfl, rfl, trivial⟩, rfl, H.sel' [0, 1, 2] rfl rfl, hn29⟩
   ·clear hj
    have h := h'
    clear h' H
    rintro e a w ⟨rfl, ρ, σ109, rfl, rfl, H, hn110⟩
    refine q_blk (q_then (rg (sm (I s4.2) rfl (st (v := (I (w64 (s4.2 + 1)))) (rv_add (a := s4.2) (b := 1) rfl rfl) (sa (I (w64 (s4.2 + 1))) rfl (w_end (q_then ?_)))))))
    obtain rfl := sj h
    exact ⟨_, rfl, _, σ109, a23, c24, fr_join ⟨rfl, rfl, rfl, rfl, rfl, trivial⟩, rfl, H.sel' [0, 1, 2] rfl rfl⟩
  ·replace h := bif_f hb8 h
   refine c_exit (q_then_x (q_then_x (q_blk_hit ?_)))
   obtain rfl := sj h
   obtain rfl := hres _ rfl
   exact ⟨rfl, _, σ5, a6, c7, fr_join ⟨rfl, trivial⟩, rfl, H.sel' [2] rfl rfl⟩
 ·clear hj
  have h := h'
  clear h' H
  rintro e a w ⟨rfl, ρ, σ111, a112, c113, rfl, rfl, H⟩
  refine q_then (c_seq (rg (sm (Sl a112 o3 c113) rfl (sa (Sl a112 o3 c113) rfl (w_end (q_then (c_ret ?_)))))))
  obtain rfl := sj h
  exact fin_ret (v := (Sl a112 o3 c113)) (results_ok Tryz.results103 (res_tmp (v := (Sl a112 o3 c113)) rfl res_nil) rfl) ⟨a112, c113, rfl, rfl⟩ (H.sel' [0] rfl rfl)

end Go.Vs
