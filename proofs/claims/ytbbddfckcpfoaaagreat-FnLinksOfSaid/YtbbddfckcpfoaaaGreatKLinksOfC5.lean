/- The functions compute what their models say. -/
import Derived.Test.YtbbddfckcpfoaaaGreatKLinksOfC4
set_option linter.unusedVariables false
set_option linter.unusedSimpArgs false
set_option maxRecDepth 20000
namespace Go.Vs
open Go Go.Proofs
attribute [local irreducible] Code.wp Code.wpIn wpList wpListIn wpQuiet Calls CallsIn

theorem c_slices_BinarySearchFunc_impl_Item_impl_Item_int__impl_placeOf_1 {Aj : List (Int × (List Int) × Int)} {Hd : Int} {Dg : Option Addr} {Dh : Nat} {r : Int × Bool} (h : M.slices_BinarySearchFunc_impl_Item_impl_Item_int__impl_placeOf_1 Aj Hd = some r) :
    Cal2 Tryz.prog 143 [(Sl Dg Aj Dh), (I Hd), (.func (.func 144) #[] #[])] [Ch.ro 0 (Sl Dg Aj Dh) Aj] (fun n0 v L => v = (.tuple #[(I r.1), (B r.2)]) ∧ L = []) := by
 refine cal2 (n := 49) Tryz.func143 rfl rfl rfl rfl ?_
 intro S0 σ0 n0 hn0 H
 unfold M.slices_BinarySearchFunc_impl_Item_impl_Item_int__impl_placeOf_1 at h
 refine c_seq (rg (sa (I 0) rfl (sa (B false) rfl (w_end (q_then (c_seq (rg (sm (Sl Dg Aj Dh) rfl (st (v := (I (Aj.length : Int))) (rv_len Tryz.underlying26 rfl) (sa (I (Aj.length : Int)) rfl (w_end ?_)))))))))))
 refine q_then (c_seq (rg (sm (I (Aj.length : Int)) rfl (sa (I 0) rfl (sa (I (Aj.length : Int)) rfl (w_end (q_then (c_seq ?_))))))))
 obtain ⟨o1, hj, h'⟩ := bind_some h
 clear h
 refine c_cut (fun e a w => e = .normal ∧ ∃ (ρ : Nat → Value) (σ : St), a = fr 49 (updL ρ [(0, (Sl Dg Aj Dh)), (1, (I Hd)), (2, (.func (.func 144) #[] #[])), (8, (I (Aj.length : Int))), (9, (I o1))]) ∧ w = σ.w ∧ Hp S0 σ0 σ [Ch.ro 0 (Sl Dg Aj Dh) Aj]) ?_ ?_
 ·clear h'
  rename _ = some o1 => h
  refine c_blk (wp_loopM _ h (fun s2 a w => ∃ (ρ : Nat → Value) (σ : St), a = fr 49 (updL ρ [(0, (Sl Dg Aj Dh)), (1, (I Hd)), (2, (.func (.func 144) #[] #[])), (8, (I (Aj.length : Int))), (9, (I s2.1)), (10, (I s2.2))]) ∧ w = σ.w ∧ Hp S0 σ0 σ [Ch.ro 0 (Sl Dg Aj Dh) Aj]) ⟨_, σ0, fr_join ⟨rfl, rfl, rfl, rfl, rfl, rfl, trivial⟩, rfl, H.sel' [0] rfl rfl⟩ ?_)
  clear h H
  rintro s2 a w o ⟨ρ, σ3, rfl, rfl, H⟩ h hres
  refine c_seq (c_seq (rg (sm (I s2.1) rfl (sm (I s2.2) rfl (st (v := (B (decide (s2.1 < s2.2)))) (rv_lss (a := s2.1) (b := s2.2) rfl rfl) (w_end (q_then ?_)))))))
  refine cd_cond (decide (s2.1 < s2.2)) rfl (fun hb4 => ?_) (fun hb4 => ?_)
  ·replace h := bif_t hb4 h
   refine c_skip (q_then (c_blk (c_seq (rg (sm (I s2.1) rfl (sm (I s2.2) rfl (st (v := (I (w64 (s2.1 + s2.2)))) (rv_add (a := s2.1) (b := s2.2) rfl rfl) (st (v := (.int .u64 (wk .u64 (w64 (s2.1 + s2.2))))) (rvk_conv (k := .i64) (k' := .u64) (a := (w64 (s2.1 + s2.2))) Tryz.underlying3 Tryz.underlying150 rfl) ?_))))))))
   refine st (v := (.int .u64 (gshr .u64 (wk .u64 (w64 (s2.1 + s2.2))) 1))) (rvk_shr (k := .u64) (k' := .u64) (a := (wk .u64 (w64 (s2.1 + s2.2)))) (b := 1) rfl rfl (by decide)) ?_
   refine st (v := (I (wk .i64 (gshr .u64 (wk .u64 (w64 (s2.1 + s2.2))) 1)))) (rvk_conv (k := .u64) (k' := .i64) (a := (gshr .u64 (wk .u64 (w64 (s2.1 + s2.2))) 1)) Tryz.underlying150 Tryz.underlying3 rfl) (sa (I (wk .i64 (gshr .u64 (wk .u64 (w64 (s2.1 + s2.2))) 1))) rfl (w_end (q_then (c_seq (rg (sm (.func (.func 144) #[] #[]) rfl (sm (Sl Dg Aj Dh) rfl (sm (I (wk .i64 (gshr .u64 (wk .u64 (w64 (s2.1 + s2.2))) 1))) rfl ?_))))))))
   revert h; refine br fun x5 hx6 h => ?_
   obtain ⟨b8, o9, hi7, -⟩ := (H.ro 0 rfl).ix hx6
   refine st (v := (pt b8 o9)) (rv_ix Tryz.underlying26 ti34 rfl rfl hi7) ?_
   obtain ⟨_, ⟨_, _, rfl, rfl, ⟨_, _, rfl, ⟨_, rfl, hR14⟩, rfl⟩⟩, hl10, hc11⟩ := ((H.ro 0 rfl).at hx6 hi7).cells
   obtain ⟨a12, c13, rfl⟩ := hR14.isSl
   replace H := H.add (d := Ch.ro 0 (Sl a12 x5.2.1 c13) x5.2.1) hR14 (fun _ h => h)
   clear hR14
   refine st (v := (.agg #[(I x5.1), (Sl a12 x5.2.1 c13), (I x5.2.2)])) (rv_load Tryz.underlying34 rfl ti34 rfl hl10 hc11) (sm (I Hd) rfl ?_)
   revert h; refine br fun r15 hx16 h => ?_
   have hc17 := c_impl_placeOf_1 (Ak := a12) (Am := c13) hx16
   refine st_call (cx_call hc17 (ent_v (cap := []) hc17.fn rfl rfl) hn0 (H.sel' [0, 0, 1] rfl rfl : Hp S0 σ0 _ ([_] ++ _))) wn ?_
   rintro _ σ18 ⟨_, ⟨rfl, rfl⟩, H, -⟩
   replace H : Hp _ _ _ [_, _] := H
   refine st (v := (B (decide (r15 < 0)))) (rv_lss (a := r15) (b := 0) rfl rfl) (w_end (q_then ?_))
   refine cd_cond (decide (r15 < 0)) rfl (fun hb19 => ?_) (fun hb19 => ?_)
   ·replace h := bif_t hb19 h
    refine rg (sm (I (wk .i64 (gshr .u64 (wk .u64 (w64 (s2.1 + s2.2))) 1))) rfl (st (v := (I (w64 ((wk .i64 (gshr .u64 (wk .u64 (w64 (s2.1 + s2.2))) 1)) + 1)))) (rv_add (a := (wk .i64 (gshr .u64 (wk .u64 (w64 (s2.1 + s2.2))) 1))) (b := 1) rfl rfl) (sa (I (w64 ((wk .i64 (gshr .u64 (wk .u64 (w64 (s2.1 + s2.2))) 1)) + 1))) rfl (w_end (q_blk (q_then ?_))))))
    obtain rfl := sj h
    exact ⟨_, rfl, _, σ18, fr_join ⟨rfl, rfl, rfl, rfl, rfl, rfl, trivial⟩, rfl, H.sel' [1] rfl rfl⟩
   ·replace h := bif_f hb19 h
    refine rg (sm (I (wk .i64 (gshr .u64 (wk .u64 (w64 (s2.1 + s2.2))) 1))) rfl (sa (I (wk .i64 (gshr .u64 (wk .u64 (w64 (s2.1 + s2.2))) 1))) rfl (w_end (q_blk (q_then ?_)))))
    obtain rfl := sj h
    exact ⟨_, rfl, _, σ18, fr_join ⟨rfl, rfl, rfl, rfl, rfl, rfl, trivial⟩, rfl, H.sel' [1] rfl rfl⟩
  ·replace h := bif_f hb4 h
   refine c_exit (q_then_x (q_then_x (q_blk_hit ?_)))
   obtain rfl := sj h
   obtain rfl := hres _ rfl
   exact ⟨rfl, _, σ3, fr_join ⟨rfl, rfl, rfl, rfl, rfl, trivial⟩, rfl, H.sel' [0] rfl rfl⟩
 ·clear hj
  have h := h'
  clear h' H
  rintro e a w ⟨rfl, ρ, σ20, rfl, rfl, H⟩
  refine q_then (c_seq (rg (sm (I o1) rfl (sm (I o1) rfl (sm (I (Aj.length : Int)) rfl (st (v := (B (decide (o1 < (Aj.length : Int))))) (rv_lss (a := o1) (b := (Aj.length : Int)) rfl rfl) (sm (B (decide (o1 < (Aj.length : Int)))) rfl ?_)))))))
  rcases Bool.eq_false_or_eq_true (decide (o1 < (Aj.length : Int))) with hb21 | hb21
  ·replace h := bif_t hb21 h
   refine st_g (v := (.func (.func 144) #[] #[])) (congrArg some hb21) (rv_move rfl) (st_g (v := (Sl Dg Aj Dh)) (congrArg some hb21) (rv_move rfl) (st_g (v := (I o1)) (congrArg some hb21) (rv_move rfl) ?_))
   revert h; refine br fun x22 hx23 h => ?_
   obtain ⟨b25, o26, hi24, -⟩ := (H.ro 0 rfl).ix hx23
   refine st_g (v := (pt b25 o26)) (congrArg some hb21) (rv_ix Tryz.underlying26 ti34 rfl rfl hi24) ?_
   obtain ⟨_, ⟨_, _, rfl, rfl, ⟨_, _, rfl, ⟨_, rfl, hR31⟩, rfl⟩⟩, hl27, hc28⟩ := ((H.ro 0 rfl).at hx23 hi24).cells
   obtain ⟨a29, c30, rfl⟩ := hR31.isSl
   replace H := H.add (d := Ch.ro 0 (Sl a29 x22.2.1 c30) x22.2.1) hR31 (fun _ h => h)
   clear hR31
   refine st_g (v := (.agg #[(I x22.1), (Sl a29 x22.2.1 c30), (I x22.2.2)])) (congrArg some hb21) (rv_load Tryz.underlying34 rfl ti34 rfl hl27 hc28) (st_g (v := (I Hd)) (congrArg some hb21) (rv_move rfl) ?_)
   revert h; refine br fun r32 hx33 h => ?_
   have hc34 := c_impl_placeOf_1 (Ak := a29) (Am := c30) hx33
   refine st_call (cx_call hc34 (ent_v (cap := []) hc34.fn rfl rfl) hn0 (H.sel' [0, 0, 1] rfl rfl : Hp S0 σ0 _ ([_] ++ _))) (wanted_yes rfl (by exact (congrArg some hb21))) ?_
   rintro _ σ35 ⟨_, ⟨rfl, rfl⟩, H, -⟩
   replace H : Hp _ _ _ [_, _] := H
   refine st_g (v := (B (r32 == 0))) (congrArg some hb21) (rv_eql (a := r32) (b := 0) rfl rfl) (st (v := (B (r32 == 0))) (rv_pick_t (congrArg B hb21) rfl) (sa (I o1) rfl (sa (B (r32 == 0)) rfl (w_end (q_then (c_ret ?_))))))
   obtain rfl := sj h
   exact fin_ret (v := (.tuple #[(I o1), (B (r32 == 0))])) (results_ok Tryz.results143 (res_tmp (v := (I o1)) rfl (res_tmp (v := (B (r32 == 0))) rfl res_nil)) rfl) ⟨rfl, rfl⟩ (H.sel' [] rfl rfl)
  ·replace h := bif_f hb21 h
   refine st_skip (congrArg some hb21) (st_skip (congrArg some hb21) (st_skip (congrArg some hb21) (st_skip (congrArg some hb21) (st_skip (congrArg some hb21) (st_skip (congrArg some hb21) (st_skip (congrArg some hb21) (st_skip (congrArg some hb21) (st (v := (B false)) (rv_pick_f (congrArg B hb21) rfl) (sa (I o1) rfl (sa (B false) rfl (w_end ?_)))))))))))
   refine q_then (c_ret ?_)
   obtain rfl := sj h
   exact fin_ret (v := (.tuple #[(I o1), (B false)])) (results_ok Tryz.results143 (res_tmp (v := (I o1)) rfl (res_tmp (v := (B false)) rfl res_nil)) rfl) ⟨rfl, rfl⟩ (H.sel' [] rfl rfl)

theorem c_impl_placeOf {Ao : List (Int × (List Int) × Int)} {Hc : Int} {Ap : Option Addr} {Aq : Nat} {r : Int × Bool} (h : M.impl_placeOf Ao Hc = some r) :
    Cal2 Tryz.prog 93 [(Sl Ap Ao Aq), (I Hc)] [Ch.ro 0 (Sl Ap Ao Aq) Ao] (fun n0 v L => v = (.tuple #[(I r.1), (B r.2)]) ∧ L = []) := by
 refine cal2 (n := 11) Tryz.func93 rfl rfl rfl rfl ?_
 intro S0 σ0 n0 hn0 H
 unfold M.impl_placeOf at h
 refine c_seq (rg (sa (I 0) rfl (sa (B false) rfl (w_end (q_then (c_seq (rg (sm (Sl Ap Ao Aq) rfl (sm (I Hc) rfl ?_)))))))))
 revert h; refine br fun r1 hx2 h => ?_
 have hc3 := c_slices_BinarySearchFunc_impl_Item_impl_Item_int__impl_placeOf_1 (Dg := Ap) (Dh := Aq) hx2
 refine st_call (cx_call hc3 (ent_f hc3.fn rfl) hn0 (H.sel' [0, 0] rfl rfl : Hp S0 σ0 _ ([_] ++ _))) wn ?_
 rintro _ σ4 ⟨_, ⟨rfl, rfl⟩, H, -⟩
 replace H : Hp _ _ _ [_] := H
 refine st (v := (I r1.1)) (rv_extract rfl rfl) (st (v := (B r1.2)) (rv_extract rfl rfl) (sa (I r1.1) rfl (sa (B r1.2) rfl (w_end (q_then (c_ret ?_))))))
 obtain rfl := sj h
 exact fin_ret (v := (.tuple #[(I r1.1), (B r1.2)])) (results_ok Tryz.results93 (res_tmp (v := (I r1.1)) rfl (res_tmp (v := (B r1.2)) rfl res_nil)) rfl) ⟨rfl, rfl⟩ (H.sel' [] rfl rfl)

theorem c_slices_Delete_impl_Item_impl_Item {Ck : List (Int × (List Int) × Int)} {Bo : Int} {Bp : Int} {Cl : Option Addr} {Cm : Nat} {r : (List (Int × (List Int) × Int))} (h : M.slices_Delete_impl_Item_impl_Item Ck Bo Bp = some r) :
    Cal2 Tryz.prog 94 [(Sl Cl Ck Cm), (I Bo), (I Bp)] [Ch.own 0 0 (Sl Cl Ck Cm) Ck] (fun n0 v L => ∃ (az1 : Option Addr), ∃ (cz2 : Nat), v = (Sl az1 r cz2) ∧ L = [Ch.own 0 0 (Sl az1 r cz2) r]) := by
 refine cal2 (n := 33) Tryz.func94 rfl rfl rfl rfl ?_
 intro S0 σ0 n0 hn0 H
 unfold M.slices_Delete_impl_Item_impl_Item at h
 refine c_seq (rg (sa (.slice none 0 0) rfl (w_end (q_then (c_seq (rg (sm (Sl Cl Ck Cm) rfl (sm (I Bo) rfl (sm (I Bp) rfl (sm (Sl Cl Ck Cm) rfl (st (v := (I (Ck.length : Int))) (rv_len Tryz.underlying26 rfl) ?_)))))))))))
 revert h; refine br fun o1 hx2 h => ?_
 refine st (v := (.slice (if ((Ck.length : Int)).toNat = (Bo).toNat then Cl else (Cl).map (·.add ((Bo).toNat * 3))) ((Bp).toNat - (Bo).toNat) (((Ck.length : Int)).toNat - (Bo).toNat))) (rv_slice3 Tryz.underlying26 ti34 hx2 (H.own 0 rfl).cap rfl rfl rfl rfl) (w_end (q_then (c_seq (c_seq (rg (sm (I Bo) rfl (sm (I Bp) rfl (st (v := (B (Bo == Bp))) (rv_eql (a := Bo) (b := Bp) rfl rfl) (w_end (q_then ?_))))))))))
 refine cd_cond (Bo == Bp) rfl (fun hb3 => ?_) (fun hb3 => ?_)
 ·replace h := bif_t hb3 h
  refine c_seq (rg (sm (Sl Cl Ck Cm) rfl (sa (Sl Cl Ck Cm) rfl (w_end (q_then (c_ret (q_then_r ?_)))))))
  obtain rfl := sj h
  exact fin_ret (v := (Sl Cl Ck Cm)) (results_ok Tryz.results94 (res_tmp (v := (Sl Cl Ck Cm)) rfl res_nil) rfl) ⟨Cl, Cm, rfl, rfl⟩ (H.sel' [0] rfl rfl)
 ·replace h := bif_f hb3 h
  refine c_skip (q_then (c_seq (rg (sm (Sl Cl Ck Cm) rfl (st (v := (I (Ck.length : Int))) (rv_len Tryz.underlying26 rfl) (sa (I (Ck.length : Int)) rfl (w_end (q_then (c_seq ?_)))))))))
  refine rgP (σ := σ0) 6 (by kernel_rfl) (by kernel_rfl) (by kernel_rfl) ?_
  refine sq (v := (Sl Cl Ck Cm)) (rv_move rfl) (sq (v := (I Bo)) (rv_move rfl) ?_)
  revert h; refine br fun xs4 hx5 h => ?_
  obtain ⟨a6, c7, hs8, -⟩ := (H.own 0 rfl).slice hx5
  refine sq (v := (Sl a6 xs4 c7)) (rv_slice_h Tryz.underlying26 ti34 hs8 rfl rfl) (sq (v := (Sl Cl Ck Cm)) (rv_move rfl) (sq (v := (I Bp)) (rv_move rfl) ?_))
  revert h; refine br fun xs10 hx11 h => ?_
  obtain ⟨a12, c13, hs14, -⟩ := (H.own 0 rfl).slice hx11
  refine sq (v := (Sl a12 xs10 c13)) (rv_slice_l Tryz.underlying26 ti34 hs14 rfl rfl) (sq_end ?_)
  intro σ16 hm17
  replace H := H.grow (hm17.mono fun _ h => h); clear hm17
  revert h; refine br fun xs18 hx19 h => ?_
  refine st_ex (ex_appV H (i := 0) rfl Tryz.underlying26 Tryz.underlying26 ti34 rfl rfl (by decide) hx5 hs8 ((H.own 0 rfl).view hx11 hs14).1.rd hx19 (Nat.zero_le _) rfl rfl) wn ?_
  rintro _ σ23 ⟨a20, c21, rfl, H, -, hf22⟩
  refine sa (Sl a20 xs18 c21) rfl (w_end (q_then (c_seq (rg (sm (Sl a20 xs18 c21) rfl (sm (Sl a20 xs18 c21) rfl (st (v := (I (xs18.length : Int))) (rv_len Tryz.underlying26 rfl) (sm (I (Ck.length : Int)) rfl ?_))))))))
  have hd30 := del_room hx5 hx11 (gthree_some hx2).2.1 hx19 hs8 hf22
  refine st (v := (.slice (if c21 = xs18.length then a20 else (a20).map (·.add (xs18.length * 3))) (Ck.length - xs18.length) (c21 - xs18.length))) (rv_sliceX (m0 := xs18.length) (k0 := Ck.length) Tryz.underlying26 ti34 hd30.1 hd30.2 rfl rfl rfl) ?_
  refine st_ex0 (ex_clearX (k0 := Ck.length) H (i := 0) rfl Tryz.underlying26 ti34 rfl rfl (by simp [plain, Value.cells]) hd30.1 hd30.2 rfl) wn ?_
  rintro _ σ31 ⟨rfl, H, -⟩
  refine w_end (q_then (c_seq (rg (sm (Sl a20 xs18 c21) rfl (sa (Sl a20 xs18 c21) rfl (w_end (q_then (c_ret ?_))))))))
  obtain rfl := sj h
  exact fin_ret (v := (Sl a20 xs18 c21)) (results_ok Tryz.results94 (res_tmp (v := (Sl a20 xs18 c21)) rfl res_nil) rfl) ⟨a20, c21, rfl, rfl⟩ (H.sel' [0] rfl rfl)

theorem c_slices_Clone_int_int {Ck : List Int} {Cl : Option Addr} {Cm : Nat} {r : (List Int)} (h : M.slices_Clone_int_int Ck = some r) :
    Cal2 Tryz.prog 176 [(Sl Cl Ck Cm)] [Ch.ro 0 (Sl Cl Ck Cm) Ck] (fun n0 v L => ∃ (az1 : Option Addr), ∃ (cz2 : Nat), v = (Sl az1 r cz2) ∧ L = [Ch.own n0 n0 (Sl az1 r cz2) r]) := by
 refine cal2 (n := 8) Tryz.func176 rfl rfl rfl rfl ?_
 intro S0 σ0 n0 hn0 H
 unfold M.slices_Clone_int_int at h
 refine c_seq (rg (sa (.slice none 0 0) rfl (w_end (q_then (c_seq (c_seq (rg (sm (Sl Cl Ck Cm) rfl (st (v := (B Cl.isNone)) (rv_nilS Tryz.underlying27 rfl rfl) (w_end (q_then ?_)))))))))))
 refine cd_cond Cl.isNone rfl (fun hb1 => ?_) (fun hb1 => ?_)
 ·have hq := RS.nilOf hb1 (H.ro 0 rfl)
  subst hq
  replace h : some [] = some r := by simpa [gapp] using h
  refine c_seq (rg (sa (.slice none 0 0) rfl (w_end (q_then (c_ret (q_then_r ?_))))))
  replace H := H.nilOwn Int n0 n0
  obtain rfl := sj h
  exact fin_ret (v := (.slice none 0 0)) (results_ok Tryz.results176 (res_tmp (v := (.slice none 0 0)) rfl res_nil) rfl) ⟨none, 0, rfl, rfl⟩ (H.sel' [0] rfl rfl)
 ·refine c_skip ?_
  refine q_then (c_seq (rg ?_))
  refine st_ex (ex_buildSlice (el := n0) (xs := ([] : List Int)) (ps := []) (cs := []) H hn0 Tryz.underlying27 ti3 rfl rfl (by kernel_rfl) (.nil) rfl) wn ?_
  rintro _ σ3 ⟨b2, rfl, H, -⟩
  refine sm (Sl Cl Ck Cm) rfl ?_
  revert h; refine br fun xs4 hx5 h => ?_
  refine st_ex (ex_append H (i := 0) rfl Tryz.underlying27 Tryz.underlying27 ti3 rfl rfl (by decide) ((H.ro 1 rfl).rd.sc) hx5 hn0 rfl rfl) wn ?_
  rintro _ σ8 ⟨a6, c7, rfl, H, -⟩
  refine sa (Sl a6 xs4 c7) rfl (w_end (q_then (c_ret ?_)))
  obtain rfl := sj h
  exact fin_ret (v := (Sl a6 xs4 c7)) (results_ok Tryz.results176 (res_tmp (v := (Sl a6 xs4 c7)) rfl res_nil) rfl) ⟨a6, c7, rfl, rfl⟩ (H.sel' [0] rfl rfl)

theorem c_impl_copyItem {Aj : Int × (List Int) × Int} {Ak : Option Addr} {Am : Nat} {r : (Int × (List Int) × Int)} (h : M.impl_copyItem Aj = some r) :
    Cal2 Tryz.prog 146 [(.agg #[(I Aj.1), (Sl Ak Aj.2.1 Am), (I Aj.2.2)])] [Ch.ro 0 (Sl Ak Aj.2.1 Am) Aj.2.1] (fun n0 v L => ∃ (az1 : Option Addr), ∃ (cz2 : Nat), v = (.agg #[(I r.1), (Sl az1 r.2.1 cz2), (I r.2.2)]) ∧ L = [Ch.own n0 n0 (Sl az1 r.2.1 cz2) r.2.1]) := by
 refine cal2 (n := 11) Tryz.func146 rfl rfl rfl rfl ?_
 intro S0 σ0 n0 hn0 H
 unfold M.impl_copyItem at h
 refine c_seq (rg (st_ex (ex_box (cs := [(I Aj.1), (Sl Ak Aj.2.1 Am), (I Aj.2.2)]) H hn0 rfl rfl) wn ?_))
 rintro _ σ2 ⟨b1, rfl, H, -⟩
 refine st_ex (ex_alloc (cs := [(I 0), (.slice none 0 0), (I 0)]) H hn0 ti34 rfl) wn ?_
 rintro _ σ4 ⟨b3, rfl, H, -⟩
 refine w_end (q_then (c_seq ?_))
 have hc5 := H.cell (u := (I Aj.1)) (o' := 0) 1 0 rfl rfl rfl
 have hc6 := H.cell (u := (Sl Ak Aj.2.1 Am)) (o' := 1) 1 1 rfl rfl rfl
 revert h; refine br fun r7 hx8 h => ?_
 have hc9 := c_slices_Clone_int_int (Cl := Ak) (Cm := Am) hx8
 have hc12 := H.cell (u := (I Aj.2.2)) (o' := 2) 1 2 rfl rfl rfl
 have Hs := H
 refine rg2 (σ := σ4) (Nm := (Option Addr) × (Nat)) 7 [4] [[false], [true]] [[(0, 0), (1, 1)], [(0, 0), (1, 1)], [(0, 0)], [(0, 0)], [(0, 1)], [(0, 0), (1, 1)], [(0, 0), (1, 1)]] 1 [fun ((a10, c11) : (Option Addr) × (Nat)) => fun σm => Hp S0 σ0 σm [Ch.bx n0 b3 0 [(I 0), (.slice none 0 0), (I 0)] [] [], Ch.bx n0 b1 0 [(I Aj.1), (Sl Ak Aj.2.1 Am), (I Aj.2.2)] [] [], Ch.ro 0 (Sl Ak Aj.2.1 Am) Aj.2.1] ∧ Md (cov []) σ4 σm, fun ((a10, c11) : (Option Addr) × (Nat)) => fun σm => Hp S0 σ0 σm [Ch.own n0 n0 (Sl a10 r7 c11) r7, Ch.bx n0 b3 0 [(I 0), (.slice none 0 0), (I 0)] [] [], Ch.bx n0 b1 0 [(I Aj.1), (Sl Ak Aj.2.1 Am), (I Aj.2.2)] [] [], Ch.ro 0 (Sl Ak Aj.2.1 Am) Aj.2.1] ∧ Md (cov []) σ4 σm] [fun ((a10, c11) : (Option Addr) × (Nat)) => (pt b1 0), fun ((a10, c11) : (Option Addr) × (Nat)) => (I Aj.1), fun ((a10, c11) : (Option Addr) × (Nat)) => (pt b1 1), fun ((a10, c11) : (Option Addr) × (Nat)) => (Sl Ak Aj.2.1 Am), fun ((a10, c11) : (Option Addr) × (Nat)) => (Sl a10 r7 c11), fun ((a10, c11) : (Option Addr) × (Nat)) => (pt b1 2), fun ((a10, c11) : (Option Addr) × (Nat)) => (I Aj.2.2)] (none, 0) (by kernel_rfl) (by kernel_rfl) ?_ ?_ ?_
 ·intro σm m0
  exact ⟨H.grow (m0.mono fun _ h => h.elim), m0⟩
 ·refine ac rfl (by
    intro k; rintro ⟨a10, c11⟩ ρ σm hJ hoff hdep
    have e1 := look_off (N := 11) (hoff 1 rfl) rfl
    exact dp_v (v := (pt b1 0)) wn (rv_fieldAddr (off := 0) (ft := 3) Tryz.underlying34 rfl ti3 rfl e1) rfl hJ) ?_
  refine all_cons (by
    refine ⟨?_, ?_⟩
    ·rintro ⟨a10, c11⟩ ρ σm hJ hoff hdep
     have e3 := hdep 0 rfl rfl 3 rfl
     obtain ⟨H, m⟩ := id hJ
     have hc5 := H.cell (u := (I Aj.1)) (o' := 0) 1 0 rfl rfl rfl
     exact dp_v (v := (I Aj.1)) wn (rv_load1 Tryz.underlying3 rfl e3 hc5) rfl hJ
    refine ⟨?_, ?_⟩
    ·rintro ⟨a10, c11⟩ ρ σm hJ hoff hdep
     have e3 := hdep 0 rfl rfl 3 rfl
     obtain ⟨H, m⟩ := id hJ
     have hc5 := H.cell (u := (I Aj.1)) (o' := 0) 2 0 rfl rfl rfl
     exact dp_v (v := (I Aj.1)) wn (rv_load1 Tryz.underlying3 rfl e3 hc5) rfl hJ
    trivial) ?_
  refine ac rfl (by
    intro k; rintro ⟨a10, c11⟩ ρ σm hJ hoff hdep
    have e1 := look_off (N := 11) (hoff 1 rfl) rfl
    exact dp_v (v := (pt b1 1)) wn (rv_fieldAddr (off := 1) (ft := 27) Tryz.underlying34 rfl ti27 rfl e1) rfl hJ) ?_
  refine all_cons (by
    refine ⟨?_, ?_⟩
    ·rintro ⟨a10, c11⟩ ρ σm hJ hoff hdep
     have e5 := hdep 2 rfl rfl 5 rfl
     obtain ⟨H, m⟩ := id hJ
     have hc6 := H.cell (u := (Sl Ak Aj.2.1 Am)) (o' := 1) 1 1 rfl rfl rfl
     exact dp_v (v := (Sl Ak Aj.2.1 Am)) wn (rv_load1 Tryz.underlying27 rfl e5 hc6) rfl hJ
    trivial) ?_
  refine all_cons (by
    refine ⟨?_, ?_⟩
    ·rintro ⟨a10, c11⟩ ρ σm hJ hoff hdep
     have e6 : look 11 ρ 6 = (Sl Ak Aj.2.1 Am) := hdep 3 rfl rfl 6 rfl
     obtain ⟨H, m⟩ := id hJ
     refine dp_cx wn (cx_call hc9 (ent_f hc9.fn (by show [look 11 ρ 6] = _; rw [e6])) hn0 (H.sel' [2, 0, 1, 2] rfl rfl : Hp S0 σ0 _ ([_] ++ _))) ?_
     rintro _ σq ⟨_, ⟨a10x, c11x, rfl, rfl⟩, H2, m2⟩
     exact ⟨_, (a10x, c11x), rfl, rfl, ⟨H2.sel' [0, 1, 2, 3] rfl rfl, m.comp0 (m2.mono (fun i h => by simp [cov, Ch.ro] at h))⟩, stab [0, 1, 2, 3, 5, 6] (by kernel_rfl) ⟨rfl, rfl, rfl, rfl, rfl, rfl, trivial⟩⟩
    trivial) ?_
  refine ac rfl (by
    intro k; rintro ⟨a10, c11⟩ ρ σm hJ hoff hdep
    have e1 := look_off (N := 11) (hoff 1 rfl) rfl
    exact dp_v (v := (pt b1 2)) wn (rv_fieldAddr (off := 2) (ft := 3) Tryz.underlying34 rfl ti3 rfl e1) rfl hJ) ?_
  refine all_cons (by
    refine ⟨?_, ?_⟩
    ·rintro ⟨a10, c11⟩ ρ σm hJ hoff hdep
     have e8 := hdep 5 rfl rfl 8 rfl
     obtain ⟨H, m⟩ := id hJ
     have hc12 := H.cell (u := (I Aj.2.2)) (o' := 2) 1 2 rfl rfl rfl
     exact dp_v (v := (I Aj.2.2)) wn (rv_load1 Tryz.underlying3 rfl e8 hc12) rfl hJ
    refine ⟨?_, ?_⟩
    ·rintro ⟨a10, c11⟩ ρ σm hJ hoff hdep
     have e8 := hdep 5 rfl rfl 8 rfl
     obtain ⟨H, m⟩ := id hJ
     have hc12 := H.cell (u := (I Aj.2.2)) (o' := 2) 2 2 rfl rfl rfl
     exact dp_v (v := (I Aj.2.2)) wn (rv_load1 Tryz.underlying3 rfl e8 hc12) rfl hJ
    trivial) ?_
  exact all_nil
 ·rintro ⟨a10, c11⟩ ρ σ13 hJ hoff hrel
  have e2 := look_off (N := 11) (hoff 2 rfl) rfl
  have e4 := hrel 1 rfl 4 rfl
  have e7 := hrel 4 rfl 7 rfl
  have e9 := hrel 6 rfl 9 rfl
  obtain ⟨H, -⟩ := (show Hp S0 σ0 σ13 [Ch.own n0 n0 (Sl a10 r7 c11) r7, Ch.bx n0 b3 0 [(I 0), (.slice none 0 0), (I 0)] [] [], Ch.bx n0 b1 0 [(I Aj.1), (Sl Ak Aj.2.1 Am), (I Aj.2.2)] [] [], Ch.ro 0 (Sl Ak Aj.2.1 Am) Aj.2.1] ∧ Md (cov []) σ4 σ13 from hJ)
  clear hJ Hs
  rw [fr_lookL (L := [(2, (pt b3 0)), (4, (I Aj.1)), (7, (Sl a10 r7 c11)), (9, (I Aj.2.2))]) ⟨e2, e4, e7, e9, trivial⟩]
  clear hoff hrel e2 e4 e7 e9
  refine st (v := (.agg #[(I Aj.1), (Sl a10 r7 c11), (I Aj.2.2)])) (rv_build (ps := [(0, (I Aj.1)), (1, (Sl a10 r7 c11)), (2, (I Aj.2.2))]) Tryz.underlying34 ti34 (bp34 Tryz.underlying34) rfl (by kernel_rfl)) ?_
  refine st_exS (ex_store_box (k := 0) (cs := [(I 0), (.slice none 0 0), (I 0)]) (vs := [(I Aj.1), (Sl a10 r7 c11), (I Aj.2.2)]) (cs' := [(I Aj.1), (Sl a10 r7 c11), (I Aj.2.2)]) H (i := 1) rfl ti34 rfl rfl rfl rfl rfl (Nat.le_of_ble_eq_true rfl) (by simp [plain]) rfl) wn ?_
  rintro σ14 ⟨H, -⟩
  refine w_end (q_then (c_ret ?_))
  obtain rfl := sj h
  exact fin_ret (v := (.agg #[(I Aj.1), (Sl a10 r7 c11), (I Aj.2.2)])) (results_ok Tryz.results146 (res_cell rfl (run_cellRes (cs := [(I Aj.1), (Sl a10 r7 c11), (I Aj.2.2)]) Tryz.underlying34 rfl ti34 rfl (H.cells 0 rfl)) res_nil) rfl) ⟨a10, c11, rfl, rfl⟩ (H.sel' [1] rfl rfl)

theorem c_impl_copyItems {Ao : List (Int × (List Int) × Int)} {Ap : Option Addr} {Aq : Nat} {r : (List (Int × (List Int) × Int))} (h : M.impl_copyItems Ao = some r) :
    Cal2 Tryz.prog 95 [(Sl Ap Ao Aq)] [Ch.ro 0 (Sl Ap Ao Aq) Ao] (fun n0 v L => ∃ (az1 : Option Addr), ∃ (cz2 : Nat), v = (Sl az1 r cz2) ∧ L = [Ch.own n0 n0 (Sl az1 r cz2) r] ∧ cz2 = r.length) := by
 refine cal2 (n := 23) Tryz.func95 rfl rfl rfl rfl ?_
 intro S0 σ0 n0 hn0 H
 unfold M.impl_copyItems at h
 refine c_seq (rg (sa (.slice none 0 0) rfl (w_end (q_then (c_seq (rg (sm (Sl Ap Ao Aq) rfl (st (v := (I (Ao.length : Int))) (rv_len Tryz.underlying26 rfl) ?_))))))))
 revert h; refine br fun xs1 hx2 h => ?_
 refine st_ex (ex_make (el := n0) (z0 := ((0, [], 0) : Int × (List Int) × Int)) (zs := [(I 0), (.slice none 0 0), (I 0)]) H hn0 Tryz.underlying26 ti34 rfl rfl (⟨[(I 0)], [(.slice none 0 0), (I 0)], rfl, rfl, ⟨[(.slice none 0 0)], [(I 0)], rfl, ⟨_, rfl, RS.nil⟩, rfl⟩⟩) (by decide) hx2 rfl rfl) wn ?_
 rintro _ σ6 ⟨b3, c4, rfl, ht5, H, -⟩
 replace ht5 := ht5.trans (gmake_len hx2).symm
 refine sa (Sl (some ⟨b3, 0, none⟩) xs1 c4) rfl (w_end (q_then (c_seq (c_seq (rg (sm (Sl Ap Ao Aq) rfl (st (v := (I (Ao.length : Int))) (rv_len Tryz.underlying26 rfl) (sm (I 0) rfl (w_end (q_then ?_))))))))))
 obtain ⟨o7, hj, h'⟩ := bind_some h
 clear h
 refine c_cut (fun e a w => e = .normal ∧ ∃ (ρ : Nat → Value) (σ : St), a = fr 23 (updL ρ [(3, (Sl (some ⟨b3, 0, none⟩) o7 c4))]) ∧ w = σ.w ∧ Hp S0 σ0 σ [Ch.own n0 n0 (Sl (some ⟨b3, 0, none⟩) o7 c4) o7] ∧ c4 = o7.length ∧ o7.length = xs1.length) ?_ ?_
 ·clear h'
  rename _ = some o7 => h
  refine c_blk (wp_loopM _ h (fun s8 a w => ∃ (ρ : Nat → Value) (σ : St), a = fr 23 (updL ρ [(3, (Sl (some ⟨b3, 0, none⟩) s8.1 c4)), (9, (Sl Ap Ao Aq)), (10, (I (Ao.length : Int))), (11, (I s8.2))]) ∧ w = σ.w ∧ Hp S0 σ0 σ [Ch.own n0 n0 (Sl (some ⟨b3, 0, none⟩) s8.1 c4) s8.1, Ch.ro 0 (Sl Ap Ao Aq) Ao] ∧ c4 = s8.1.length ∧ s8.1.length = xs1.length) ⟨_, σ6, fr_join ⟨rfl, rfl, rfl, rfl, trivial⟩, rfl, H.sel' [0, 1] rfl rfl, ht5, rfl⟩ ?_)
  clear h H
  rintro s8 a w o ⟨ρ, σ9, rfl, rfl, H, ht10, hn11⟩ h hres
  refine c_seq (rg (st (v := (B (decide (s8.2 < (Ao.length : Int))))) (rv_lss (a := s8.2) (b := (Ao.length : Int)) rfl rfl) (w_end (q_then (c_seq ?_)))))
  refine cd_cond (decide (s8.2 < (Ao.length : Int))) rfl (fun hb12 => ?_) (fun hb12 => ?_)
  ·replace h := bif_t hb12 h
   refine c_skip (q_then (c_seq (c_blk (c_seq (rg (sm (I s8.2) rfl ?_))))))
   revert h; refine br fun x13 hx14 h => ?_
   obtain ⟨b16, o17, hi15, -⟩ := (H.ro 1 rfl).ix hx14
   refine st (v := (pt b16 o17)) (rv_ix Tryz.underlying26 ti34 rfl rfl hi15) ?_
   obtain ⟨_, ⟨_, _, rfl, rfl, ⟨_, _, rfl, ⟨_, rfl, hR22⟩, rfl⟩⟩, hl18, hc19⟩ := ((H.ro 1 rfl).at hx14 hi15).cells
   obtain ⟨a20, c21, rfl⟩ := hR22.isSl
   replace H := H.add (d := Ch.ro 0 (Sl a20 x13.2.1 c21) x13.2.1) hR22 (fun _ h => h)
   clear hR22
   refine st (v := (.agg #[(I x13.1), (Sl a20 x13.2.1 c21), (I x13.2.2)])) (rv_load Tryz.underlying34 rfl ti34 rfl hl18 hc19) (st_ex (ex_alloc (cs := [(I 0), (.slice none 0 0), (I 0)]) H hn0 ti34 rfl) wn ?_)
   rintro _ σ24 ⟨b23, rfl, H, -⟩
   refine sa (I s8.2) rfl ?_
   refine st_exS (ex_store_box (k := 0) (cs := [(I 0), (.slice none 0 0), (I 0)]) (vs := [(I x13.1), (Sl a20 x13.2.1 c21), (I x13.2.2)]) (cs' := [(I x13.1), (Sl a20 x13.2.1 c21), (I x13.2.2)]) H (i := 0) rfl ti34 rfl rfl rfl rfl rfl (Nat.le_of_ble_eq_true rfl) (by simp [plain]) rfl) wn ?_
   rintro σ25 ⟨H, -⟩
   refine w_end (q_then (rg (sm (Sl (some ⟨b3, 0, none⟩) s8.1 c4) rfl (sm (I s8.2) rfl ?_))))
   have hc26 := H.cells 0 rfl
   refine st (v := (.agg #[(I x13.1), (Sl a20 x13.2.1 c21), (I x13.2.2)])) (rv_load (cs := [(I x13.1), (Sl a20 x13.2.1 c21), (I x13.2.2)]) Tryz.underlying34 rfl ti34 rfl rfl hc26) ?_
   revert h; refine br fun r27 hx28 h => ?_
   have hc29 := c_impl_copyItem (Ak := a20) (Am := c21) hx28
   refine st_call (cx_call hc29 (ent_f hc29.fn rfl) hn0 (H.sel' [1, 0, 1, 2, 3] rfl rfl : Hp S0 σ0 _ ([_] ++ _))) wn ?_
   rintro _ σ32 ⟨_, ⟨a30, c31, rfl, rfl⟩, H, -⟩
   replace H : Hp _ _ _ [_, _, _, _, _] := H
   revert h; refine br fun x33 hx34 h => ?_
   obtain ⟨b36, o37, hi35, -⟩ := (H.own 3 rfl).ix hx34
   refine st (v := (pt b36 o37)) (rv_ix Tryz.underlying26 ti34 rfl rfl hi35) ?_
   obtain ⟨σ38, hw39, H, -⟩ := H.pub 0 rfl (Nat.le_refl _)
   rw [← hw39]; clear hw39
   refine st_exS (ex_store_own (e' := (r27.1, r27.2.1, r27.2.2)) (vs := [(I r27.1), (Sl a30 r27.2.1 c31), (I r27.2.2)]) (k := 0) H (i := 3) rfl ti34 hx34 hi35 rfl rfl rfl rfl rfl (Nat.le_of_ble_eq_true rfl) (by simp [plain]) (by rintro _ ⟨_, _, rfl, rfl, ⟨_, _, rfl, ⟨_, rfl, hR42⟩, rfl⟩⟩; exact ⟨[(I r27.1)], [(Sl a30 r27.2.1 c31), (I r27.2.2)], rfl, rfl, ⟨[(Sl a30 r27.2.1 c31)], [(I r27.2.2)], rfl, ⟨_, rfl, (H.ro 0 rfl)⟩, rfl⟩⟩)) wn ?_
   rintro σ43 ⟨H, -⟩
   have hsl : (Sl (some ⟨b3, 0, none⟩) s8.1 c4) = (Sl (some ⟨b3, 0, none⟩) (s8.1.set s8.2.toNat (r27.1, r27.2.1, r27.2.2)) c4) := sl_len List.length_set.symm
   rw [hsl]; rw [hsl] at H; clear hsl
   refine w_end (q_blk (q_then (rg (st (v := (I (w64 (s8.2 + 1)))) (rv_add (a := s8.2) (b := 1) rfl rfl) (sm (I (w64 (s8.2 + 1))) rfl (w_end (q_then ?_)))))))
   obtain rfl := sj h
   exact ⟨_, rfl, _, σ43, fr_join ⟨rfl, rfl, rfl, rfl, trivial⟩, rfl, H.sel' [0, 4] rfl rfl, (ht10.trans List.length_set.symm), (List.length_set.trans hn11)⟩
  ·replace h := bif_f hb12 h
   refine c_exit (q_then_x (q_then_x (q_blk_hit ?_)))
   obtain rfl := sj h
   obtain rfl := hres _ rfl
   exact ⟨rfl, _, σ9, fr_join ⟨rfl, trivial⟩, rfl, H.sel' [0] rfl rfl, ht10, hn11⟩
 ·clear hj
  have h := h'
  clear h' H
  rintro e a w ⟨rfl, ρ, σ44, rfl, rfl, H, ht45, hn46⟩
  refine q_then (c_seq (rg (sm (Sl (some ⟨b3, 0, none⟩) o7 c4) rfl (sa (Sl (some ⟨b3, 0, none⟩) o7 c4) rfl (w_end (q_then (c_ret ?_)))))))
  obtain rfl := sj h
  exact fin_ret (v := (Sl (some ⟨b3, 0, none⟩) o7 c4)) (results_ok Tryz.results95 (res_tmp (v := (Sl (some ⟨b3, 0, none⟩) o7 c4)) rfl res_nil) rfl) ⟨(some ⟨b3, 0, none⟩), c4, rfl, rfl, ht45⟩ (H.sel' [0] rfl rfl)

theorem c_impl_DropItem {Ao : List (Int × (List Int) × Int)} {Hc : Int} {Ap : Option Addr} {Aq : Nat} {r : (List (Int × (List Int) × Int)) × Bool} (h : M.impl_DropItem Ao Hc = some r) :
    Cal2 Tryz.prog 34 [(Sl Ap Ao Aq), (I Hc)] [Ch.ro 0 (Sl Ap Ao Aq) Ao] (fun n0 v L => ∃ (az1 : Option Addr), ∃ (cz2 : Nat), v = (.tuple #[(Sl az1 r.1 cz2), (B r.2)]) ∧ L = [Ch.own 0 0 (Sl az1 r.1 cz2) r.1]) := by
 refine cal2 (n := 25) Tryz.func34 rfl rfl rfl rfl ?_
 intro S0 σ0 n0 hn0 H
 unfold M.impl_DropItem at h
 refine c_seq (rg (sa (.slice none 0 0) rfl (sa (B false) rfl (w_end (q_then (c_seq (c_seq (rg (sm (Sl Ap Ao Aq) rfl ?_)))))))))
 revert h; refine br fun r1 hx2 h => ?_
 have hc3 := c_impl_ValidStore (Ap := Ap) (Aq := Aq) hx2
 refine st_call (cx_call hc3 (ent_f hc3.fn rfl) hn0 (H.sel' [0, 0] rfl rfl : Hp S0 σ0 _ ([_] ++ _))) wn ?_
 rintro _ σ4 ⟨_, ⟨rfl, rfl⟩, H, -⟩
 replace H : Hp _ _ _ [_] := H
 refine st (v := (B (!r1))) (rv_not rfl) (w_end (q_then ?_))
 refine cd_cond (!r1) rfl (fun hb5 => ?_) (fun hb5 => ?_)
 ·replace h := bif_t hb5 h
  refine c_seq (rg (sa (.slice none 0 0) rfl (sa (B false) rfl (w_end (q_then (c_ret (q_then_r ?_)))))))
  replace H := H.nilOwn (Int × (List Int) × Int) 0 0
  obtain rfl := sj h
  exact fin_ret (v := (.tuple #[(.slice none 0 0), (B false)])) (results_ok Tryz.results34 (res_tmp (v := (.slice none 0 0)) rfl (res_tmp (v := (B false)) rfl res_nil)) rfl) ⟨none, 0, rfl, rfl⟩ (H.sel' [0] rfl rfl)
 ·replace h := bif_f hb5 h
  refine c_skip (q_then (c_seq (rg (sm (Sl Ap Ao Aq) rfl (sm (I Hc) rfl ?_)))))
  revert h; refine br fun r6 hx7 h => ?_
  have hc8 := c_impl_placeOf (Ap := Ap) (Aq := Aq) hx7
  refine st_call (cx_call hc8 (ent_f hc8.fn rfl) hn0 (H.sel' [0, 0] rfl rfl : Hp S0 σ0 _ ([_] ++ _))) wn ?_
  rintro _ σ9 ⟨_, ⟨rfl, rfl⟩, H, -⟩
  replace H : Hp _ _ _ [_] := H
  refine sm (.tuple #[(I r6.1), (B r6.2)]) rfl (st (v := (I r6.1)) (rv_extract rfl rfl) (st (v := (B r6.2)) (rv_extract rfl rfl) (sa (I r6.1) rfl (sa (B r6.2) rfl (w_end (q_then (c_seq (c_seq (rg (sm (B r6.2) rfl (st (v := (B (!r6.2))) (rv_not rfl) ?_)))))))))))
  refine w_end (q_then ?_)
  refine cd_cond (!r6.2) rfl (fun hb10 => ?_) (fun hb10 => ?_)
  ·replace h := bif_t hb10 h
   refine c_seq (rg (sa (.slice none 0 0) rfl (sa (B false) rfl (w_end (q_then (c_ret (q_then_r ?_)))))))
   replace H := H.nilOwn (Int × (List Int) × Int) 0 0
   obtain rfl := sj h
   exact fin_ret (v := (.tuple #[(.slice none 0 0), (B false)])) (results_ok Tryz.results34 (res_tmp (v := (.slice none 0 0)) rfl (res_tmp (v := (B false)) rfl res_nil)) rfl) ⟨none, 0, rfl, rfl⟩ (H.sel' [0] rfl rfl)
  ·replace h := bif_f hb10 h
   refine c_skip (q_then (c_seq (rg (sm (Sl Ap Ao Aq) rfl ?_))))
   revert h; refine br fun r11 hx12 h => ?_
   have hc13 := c_impl_copyItems (Ap := Ap) (Aq := Aq) hx12
   refine st_call (cx_call hc13 (ent_f hc13.fn rfl) hn0 (H.sel' [0, 0] rfl rfl : Hp S0 σ0 _ ([_] ++ _))) wn ?_
   rintro _ σ17 ⟨_, ⟨a14, c15, rfl, rfl, ht16⟩, H, -⟩
   replace H : Hp _ _ _ [_, _] := H
   refine sm (I r6.1) rfl (sm (I r6.1) rfl (st (v := (I (w64 (r6.1 + 1)))) (rv_add (a := r6.1) (b := 1) rfl rfl) ?_))
   replace H := H.ownLow 0 0 0 rfl (Nat.zero_le _) (Nat.zero_le _)
   revert h; refine br fun r18 hx19 h => ?_
   have hc20 := c_slices_Delete_impl_Item_impl_Item (Cl := a14) (Cm := c15) hx19
   refine st_call (cx_call hc20 (ent_f hc20.fn rfl) hn0 (H.sel' [0, 1] rfl rfl : Hp S0 σ0 _ ([_] ++ _))) wn ?_
   rintro _ σ23 ⟨_, ⟨a21, c22, rfl, rfl⟩, H, -⟩
   replace H : Hp _ _ _ [_, _] := H
   refine sa (Sl a21 r18 c22) rfl (sa (B true) rfl (w_end (q_then (c_ret ?_))))
   obtain rfl := sj h
   exact fin_ret (v := (.tuple #[(Sl a21 r18 c22), (B true)])) (results_ok Tryz.results34 (res_tmp (v := (Sl a21 r18 c22)) rfl (res_tmp (v := (B true)) rfl res_nil)) rfl) ⟨a21, c22, rfl, rfl⟩ (H.sel' [0] rfl rfl)

theorem c_laws_keys {Ao : List (Int × Int)} {Ap : Option Addr} {Aq : Nat} {r : (List Int)} (h : M.laws_keys Ao = some r) :
    Cal2 Tryz.prog 36 [(Sl Ap Ao Aq)] [Ch.ro 0 (Sl Ap Ao Aq) Ao] (fun n0 v L => ∃ (az1 : Option Addr), ∃ (cz2 : Nat), v = (Sl az1 r cz2) ∧ L = [Ch.own n0 n0 (Sl az1 r cz2) r]) := by
 refine cal2 (n := 21) Tryz.func36 rfl rfl rfl rfl ?_
 intro S0 σ0 n0 hn0 H
 unfold M.laws_keys at h
 refine c_seq (rg (sa (.slice none 0 0) rfl (w_end (q_then (c_seq (rg ?_))))))
 refine st_ex (ex_buildSlice (el := n0) (xs := ([] : List Int)) (ps := []) (cs := []) H hn0 Tryz.underlying27 ti3 rfl rfl (by kernel_rfl) (.nil) rfl) wn ?_
 rintro _ σ2 ⟨b1, rfl, H, -⟩
 refine sa (Sl (some ⟨b1, 0, none⟩) ([] : List Int) 0) rfl (w_end (q_then (c_seq (c_seq (rg (sa (I 0) rfl (w_end (q_then ?_))))))))
 obtain ⟨o3, hj, h'⟩ := bind_some h
 clear h
 refine c_cut (fun e a w => e = .normal ∧ ∃ (ρ : Nat → Value) (σ : St) (aj1 : Option Addr) (cj2 : Nat), a = fr 21 (updL ρ [(3, (Sl aj1 o3 cj2))]) ∧ w = σ.w ∧ Hp S0 σ0 σ [Ch.own n0 n0 (Sl aj1 o3 cj2) o3]) ?_ ?_
 ·clear h'
  rename _ = some o3 => h
  refine c_blk (wp_loopM _ h (fun s4 a w => ∃ (ρ : Nat → Value) (σ : St) (aj1 : Option Addr) (cj2 : Nat), a = fr 21 (updL ρ [(0, (Sl Ap Ao Aq)), (3, (Sl aj1 s4.1 cj2)), (4, (I s4.2))]) ∧ w = σ.w ∧ Hp S0 σ0 σ [Ch.ro 0 (Sl Ap Ao Aq) Ao, Ch.own n0 n0 (Sl aj1 s4.1 cj2) s4.1]) ⟨_, σ2, (some ⟨b1, 0, none⟩), 0, fr_join ⟨rfl, rfl, rfl, trivial⟩, rfl, H.sel' [1, 0] rfl rfl⟩ ?_)
  clear h H
  rintro s4 a w o ⟨ρ, σ5, a6, c7, rfl, rfl, H⟩ h hres
  refine c_seq (c_seq (rg (sm (I s4.2) rfl (sm (Sl Ap Ao Aq) rfl (st (v := (I (Ao.length : Int))) (rv_len Tryz.underlying30 rfl) (st (v := (B (decide (s4.2 < (Ao.length : Int))))) (rv_lss (a := s4.2) (b := (Ao.length : Int)) rfl rfl) (w_end (q_then ?_))))))))
  refine cd_cond (decide (s4.2 < (Ao.length : Int))) rfl (fun hb8 => ?_) (fun hb8 => ?_)
  ·replace h := bif_t hb8 h
   refine c_skip (q_then (c_seq (c_blk (rg (sm (Sl a6 s4.1 c7) rfl (sm (Sl Ap Ao Aq) rfl (sm (I s4.2) rfl ?_)))))))
   revert h; refine br fun x9 hx10 h => ?_
   obtain ⟨b12, o13, hi11, -⟩ := (H.ro 0 rfl).ix hx10
   refine st (v := (pt b12 o13)) (rv_ix Tryz.underlying30 ti43 rfl rfl hi11) (st (v := (pt b12 (o13 + 0))) (rv_fieldAddr (off := 0) (ft := 3) Tryz.underlying43 rfl ti3 rfl rfl) ?_)
   have hc14 := ((H.ro 0 rfl).at hx10 hi11).fst.int
   refine st (v := (I x9.1)) (rv_load1 Tryz.underlying3 rfl rfl hc14) ?_
   refine st_ex (ex_buildSlice (el := n0) (xs := ([x9.1] : List Int)) (ps := [(0, (I x9.1))]) (cs := [(I x9.1)]) H hn0 Tryz.underlying27 ti3 rfl rfl (by kernel_rfl) (.cons (c := [(I x9.1)]) rfl (.nil)) rfl) wn ?_
   rintro _ σ16 ⟨b15, rfl, H, -⟩
   revert h; refine br fun xs17 hx18 h => ?_
   refine st_ex (ex_append H (i := 2) rfl Tryz.underlying27 Tryz.underlying27 ti3 rfl rfl (by decide) (H.own 0 rfl).rd hx18 hn0 rfl rfl) wn ?_
   rintro _ σ21 ⟨a19, c20, rfl, H, -⟩
   refine sa (Sl a19 xs17 c20) rfl (w_end (q_blk (q_then (rg (sm (I s4.2) rfl (st (v := (I (w64 (s4.2 + 1)))) (rv_add (a := s4.2) (b := 1) rfl rfl) (sa (I (w64 (s4.2 + 1))) rfl (w_end (q_then ?_)))))))))
   obtain rfl := sj h
   exact ⟨_, rfl, _, σ21, a19, c20, fr_join ⟨rfl, rfl, rfl, trivial⟩, rfl, H.sel' [2, 0] rfl rfl⟩
  ·replace h := bif_f hb8 h
   refine c_exit (q_then_x (q_then_x (q_blk_hit ?_)))
   obtain rfl := sj h
   obtain rfl := hres _ rfl
   exact ⟨rfl, _, σ5, a6, c7, fr_join ⟨rfl, trivial⟩, rfl, H.sel' [1] rfl rfl⟩
 ·clear hj
  have h := h'
  clear h' H
  rintro e a w ⟨rfl, ρ, σ22, a23, c24, rfl, rfl, H⟩
  refine q_then (c_seq (rg (sm (Sl a23 o3 c24) rfl (sa (Sl a23 o3 c24) rfl (w_end (q_then (c_ret ?_)))))))
  obtain rfl := sj h
  exact fin_ret (v := (Sl a23 o3 c24)) (results_ok Tryz.results36 (res_tmp (v := (Sl a23 o3 c24)) rfl res_nil) rfl) ⟨a23, c24, rfl, rfl⟩ (H.sel' [0] rfl rfl)

theorem c_laws_FnLinksOf {Ez : List UInt8} {Fa : Option Addr} {Fb : Nat} {r : Bool} (h : M.laws_FnLinksOf Ez = some r) :
    Cal2 Tryz.prog 6 [(Sl Fa Ez Fb)] [Ch.ro 0 (Sl Fa Ez Fb) Ez] (fun n0 v L => v = (B r) ∧ L = []) := by
 refine cal2 (n := 88) Tryz.func6 rfl rfl rfl rfl ?_
 intro S0 σ0 n0 hn0 H
 unfold M.laws_FnLinksOf at h
 refine c_seq (rg (sa (B false) rfl (w_end (q_then (c_seq (c_seq (rg (sm (Sl Fa Ez Fb) rfl (st (v := (I (Ez.length : Int))) (rv_len Tryz.underlying22 rfl) (st (v := (B (decide (1048576 < (Ez.length : Int))))) (rv_gtr (a := (Ez.length : Int)) (b := 1048576) rfl rfl) (w_end ?_)))))))))))
 refine q_then ?_
 refine cd_cond (decide (1048576 < (Ez.length : Int))) rfl (fun hb1 => ?_) (fun hb1 => ?_)
 ·replace h := bif_t hb1 h
  refine c_seq (rg (sa (B true) rfl (w_end (q_then (c_ret (q_then_r ?_))))))
  obtain rfl := sj h
  exact fin_ret (v := (B true)) (results_ok Tryz.results6 (res_tmp (v := (B true)) rfl res_nil) rfl) ⟨rfl, rfl⟩ (H.sel' [] rfl rfl)
 ·replace h := bif_f hb1 h
  refine c_skip (q_then (c_seq (rg (sm (Sl Fa Ez Fb) rfl ?_))))
  revert h; refine br fun r2 hx3 h => ?_
  have hc4 := c_spec_DrawLinksOf (Fa := Fa) (Fb := Fb) hx3
  refine st_call (cx_call hc4 (ent_f hc4.fn rfl) hn0 (H.sel' [0, 0] rfl rfl : Hp S0 σ0 _ ([_] ++ _))) wn ?_
  rintro _ σ7 ⟨_, ⟨a5, c6, rfl, rfl⟩, H, -⟩
  replace H : Hp _ _ _ [_, _] := H
  refine sm (.tuple #[(Sl a5 r2.1 c6), (I r2.2.1), (I r2.2.2)]) rfl (st (v := (Sl a5 r2.1 c6)) (rv_extract rfl rfl) (st (v := (I r2.2.1)) (rv_extract rfl rfl) (st (v := (I r2.2.2)) (rv_extract rfl rfl) (sa (Sl a5 r2.1 c6) rfl (sa (I r2.2.1) rfl (sa (I r2.2.2) rfl (w_end (q_then (c_seq (rg (sm (Sl a5 r2.1 c6) rfl ?_)))))))))))
  refine sm (I r2.2.1) rfl (sm (I r2.2.2) rfl ?_)
  revert h; refine br fun r8 hx9 h => ?_
  have hc10 := c_impl_LinksOf (Ap := a5) (Aq := c6) hx9
  have hle := Nat.le_trans hn0 H.size
  refine st_call (cx_lend (Loan.lend Loan.nil) hc10 (ent_f hc10.fn rfl) (show Hp S0 σ0 _ ([Ch.own n0 n0 (Sl a5 r2.1 c6) r2.1] ++ ([] ++ [Ch.ro 0 (Sl Fa Ez Fb) Ez])) from (H.sel' [0, 1] rfl rfl)) (by rintro _ _ _ ⟨_, _, rfl, rfl, _⟩; exact ⟨Ab.own (Nat.le_refl _), trivial⟩)) wn ?_
  rintro _ σ14 ⟨_, ⟨a11, c12, rfl, rfl, ht13⟩, H, -, -⟩
  replace H : Hp _ _ _ [_, _, _] := H
  replace H := H.ownLow 0 n0 n0 rfl hle hle
  clear hle
  replace H : Hp _ _ _ [_, _, _] := H
  refine sa (Sl a11 r8 c12) rfl (w_end (q_then (c_seq (c_seq ?_))))
  obtain ⟨o15, hj, h'⟩ := bind_some h
  clear h
  refine c_cut (fun e a w => e = .normal ∧ ∃ (ρ : Nat → Value) (σ : St), a = fr 88 (updL ρ [(3, (Sl a5 r2.1 c6)), (4, (I r2.2.1)), (5, (I r2.2.2)), (6, (Sl a11 r8 c12)), (34, (B o15))]) ∧ w = σ.w ∧ Hp S0 σ0 σ [Ch.own n0 n0 (Sl a5 r2.1 c6) r2.1, Ch.own n0 n0 (Sl a11 r8 c12) r8]) ?_ ?_
  ·clear h'
   rename _ = some o15 => h
   refine rg (sm (Sl a11 r8 c12) rfl (sm (Sl a5 r2.1 c6) rfl (sm (I r2.2.1) rfl (sm (I r2.2.2) rfl ?_))))
   revert h; refine br fun r16 hx17 h => ?_
   have hc18 := c_spec_LinksOf (Ap := a5) (Aq := c6) hx17
   have hle := Nat.le_trans hn0 H.size
   refine st_call (cx_lend (Loan.lend Loan.nil) hc18 (ent_f hc18.fn rfl) (show Hp S0 σ0 _ ([Ch.own n0 n0 (Sl a5 r2.1 c6) r2.1] ++ ([] ++ [Ch.own n0 n0 (Sl a11 r8 c12) r8, Ch.ro 0 (Sl Fa Ez Fb) Ez])) from (H.sel' [1, 0, 2] rfl rfl)) (by rintro _ _ _ ⟨_, _, rfl, rfl⟩; exact ⟨Ab.own (Nat.le_refl _), trivial⟩)) wn ?_
   rintro _ σ21 ⟨_, ⟨a19, c20, rfl, rfl⟩, H, -, -⟩
   replace H : Hp _ _ _ [_, _, _, _] := H
   replace H := H.ownLow 0 n0 n0 rfl hle hle
   clear hle
   replace H : Hp _ _ _ [_, _, _, _] := H
   obtain ⟨σ22, hw23, H, -⟩ := H.pub 0 rfl (Nat.le_refl _)
   rw [← hw23]; clear hw23
   replace H := H.roLow 0 0 rfl (Nat.zero_le _)
   revert h; refine br fun r24 hx25 h => ?_
   have hc26 := c_laws_equalLists (Gv := a11) (Gw := c12) (Gx := a19) (Gy := c20) hx25
   have hle := Nat.le_trans hn0 H.size
   refine st_call (cx_lend (Loan.lend (Loan.same Loan.nil)) hc26 (ent_f hc26.fn rfl) (show Hp S0 σ0 _ ([Ch.own n0 n0 (Sl a11 r8 c12) r8] ++ ([Ch.ro 0 (Sl a19 r16 c20) r16] ++ [Ch.ro 0 (Sl a19 r16 c20) r16, Ch.ro n0 (Sl a19 r16 c20) r16, Ch.own n0 n0 (Sl a5 r2.1 c6) r2.1, Ch.ro 0 (Sl Fa Ez Fb) Ez])) from (H.sel' [3, 0, 0, 1, 2, 4] rfl rfl)) (by rintro _ _ _ ⟨rfl, rfl⟩; exact trivial)) wn ?_
   rintro _ σ27 ⟨_, ⟨rfl, rfl⟩, H, -, -⟩
   replace H : Hp _ _ _ [_, _, _, _, _] := H
   clear hle
   replace H : Hp _ _ _ [_, _, _, _, _] := H
   refine st (v := (B (!r24))) (rv_not rfl) (sm (B (!r24)) rfl ?_)
   rcases Bool.eq_false_or_eq_true (!r24) with hb28 | hb28
   ·replace h := bif_t hb28 h
    refine st_skip (congrArg some hb28) (st_skip (congrArg some hb28) (st_skip (congrArg some hb28) (st (v := (B true)) (rv_pick_t (congrArg B hb28) rfl) (w_end ?_))))
    obtain rfl := sj h
    exact ⟨rfl, _, σ27, fr_join ⟨rfl, rfl, rfl, rfl, rfl, trivial⟩, rfl, H.sel' [3, 0] rfl rfl⟩
   ·replace h := bif_f hb28 h
    refine st_g (v := (Sl a11 r8 c12)) (congrArg some hb28) (rv_move rfl) (st_g (v := (I (r8.length : Int))) (congrArg some hb28) (rv_len Tryz.underlying23 rfl) (st_g (v := (B ((r8.length : Int) == 0))) (congrArg some hb28) (rv_eql (a := (r8.length : Int)) (b := 0) rfl rfl) (st (v := (B ((r8.length : Int) == 0))) (rv_pick_f (congrArg B hb28) rfl) (w_end ?_))))
    obtain rfl := sj h
    exact ⟨rfl, _, σ27, fr_join ⟨rfl, rfl, rfl, rfl, rfl, trivial⟩, rfl, H.sel' [3, 0] rfl rfl⟩
  ·clear hj
   have h := h'
   clear h' H
   rintro e a w ⟨rfl, ρ, σ29, rfl, rfl, H⟩
   refine q_then ?_
   refine cd_cond o15 rfl (fun hb30 => ?_) (fun hb30 => ?_)
   ·replace h := bif_t hb30 h
    refine c_seq (rg (sm (Sl a11 r8 c12) rfl (sm (Sl a5 r2.1 c6) rfl (sm (I r2.2.1) rfl (sm (I r2.2.2) rfl ?_)))))
    obtain ⟨σ31, hw32, H, -⟩ := H.pub 0 rfl (Nat.le_refl _)
    rw [← hw32]; clear hw32
    replace H := H.roLow 0 0 rfl (Nat.zero_le _)
    revert h; refine br fun r33 hx34 h => ?_
    have hc35 := c_spec_LinksOf (Ap := a5) (Aq := c6) hx34
    refine st_call (cx_call hc35 (ent_f hc35.fn rfl) hn0 (H.sel' [0, 0, 1, 2] rfl rfl : Hp S0 σ0 _ ([_] ++ _))) wn ?_
    rintro _ σ38 ⟨_, ⟨a36, c37, rfl, rfl⟩, H, -⟩
    replace H : Hp _ _ _ [_, _, _, _] := H
    obtain ⟨σ39, hw40, H, -⟩ := H.pub 3 rfl (Nat.le_refl _)
    rw [← hw40]; clear hw40
    obtain ⟨σ41, hw42, H, -⟩ := H.pub 1 rfl (Nat.le_refl _)
    rw [← hw42]; clear hw42
    replace H := H.roLow 1 0 rfl (Nat.zero_le _)
    replace H := H.roLow 1 0 rfl (Nat.zero_le _)
    revert h; refine br fun r43 hx44 h => ?_
    have hc45 := c_laws_equalLists (Gv := a11) (Gw := c12) (Gx := a36) (Gy := c37) hx44
    refine st_call (cx_call hc45 (ent_f hc45.fn rfl) hn0 (H.sel' [1, 0, 0, 1, 2, 3, 4, 5] rfl rfl : Hp S0 σ0 _ ([_, _] ++ _))) wn ?_
    rintro _ σ46 ⟨_, ⟨rfl, rfl⟩, H, -⟩
    replace H : Hp _ _ _ [_, _, _, _, _, _] := H
    refine sa (B r43) rfl (w_end (q_then (c_ret (q_then_r ?_))))
    obtain rfl := sj h
    exact fin_ret (v := (B r43)) (results_ok Tryz.results6 (res_tmp (v := (B r43)) rfl res_nil) rfl) ⟨rfl, rfl⟩ (H.sel' [] rfl rfl)
   ·replace h := bif_f hb30 h
    refine c_skip (q_then (c_seq (c_seq (rg (sa (I 0) rfl (w_end (q_then ?_)))))))
    obtain ⟨o47, hj, h'⟩ := bind_some h
    clear h
    refine c_cut (fun e a w => (∃ t, o47 = (.inl t) ∧ e = .normal ∧ ∃ (ρ : Nat → Value) (σ : St), a = fr 88 (updL ρ [(3, (Sl a5 r2.1 c6)), (6, (Sl a11 r8 c12))]) ∧ w = σ.w ∧ Hp S0 σ0 σ [Ch.ro n0 (Sl a5 r2.1 c6) r2.1, Ch.ro n0 (Sl a11 r8 c12) r8]) ∨ (∃ t, o47 = (.inr t) ∧ e = .ret ∧ ∃ (ρ : Nat → Value) (σ : St), a = fr 88 (updL ρ [(2, (B t))]) ∧ w = σ.w ∧ Hp S0 σ0 σ [])) ?_ ?_
    ·clear h'
     rename _ = some o47 => h
     refine c_blk ?_
     obtain ⟨σ49, hw50, H, -⟩ := H.pub 0 rfl (Nat.le_refl _)
     rw [← hw50]; clear hw50
     obtain ⟨σ51, hw52, H, -⟩ := H.pub 1 rfl (Nat.le_refl _)
     rw [← hw52]; clear hw52
     refine wp_loopM _ h (fun s48 a w => ∃ (ρ : Nat → Value) (σ : St), a = fr 88 (updL ρ [(3, (Sl a5 r2.1 c6)), (4, (I r2.2.1)), (5, (I r2.2.2)), (6, (Sl a11 r8 c12)), (7, (I s48))]) ∧ w = σ.w ∧ Hp S0 σ0 σ [Ch.ro n0 (Sl a5 r2.1 c6) r2.1, Ch.ro n0 (Sl a11 r8 c12) r8]) ⟨_, σ51, fr_join ⟨rfl, rfl, rfl, rfl, rfl, trivial⟩, rfl, H.sel' [1, 0] rfl rfl⟩ ?_
     clear h H
     rintro s48 a w o ⟨ρ, σ53, rfl, rfl, H⟩ h hres
     refine c_seq (c_seq (rg (sm (I s48) rfl (sm (Sl a5 r2.1 c6) rfl (st (v := (I (r2.1.length : Int))) (rv_len Tryz.underlying26 rfl) (st (v := (B (decide (s48 < (r2.1.length : Int))))) (rv_lss (a := s48) (b := (r2.1.length : Int)) rfl rfl) (w_end (q_then ?_))))))))
     refine cd_cond (decide (s48 < (r2.1.length : Int))) rfl (fun hb54 => ?_) (fun hb54 => ?_)
     ·replace h := bif_t hb54 h
      refine c_skip (q_then (c_seq (c_blk (c_seq (rg (sm (Sl a5 r2.1 c6) rfl (sm (Sl a5 r2.1 c6) rfl (sm (I s48) rfl ?_))))))))
      revert h; refine br fun x55 hx56 h => ?_
      obtain ⟨b58, o59, hi57, -⟩ := (H.ro 0 rfl).ix hx56
      refine st (v := (pt b58 o59)) (rv_ix Tryz.underlying26 ti34 rfl rfl hi57) (st (v := (pt b58 (o59 + 0))) (rv_fieldAddr (off := 0) (ft := 3) Tryz.underlying34 rfl ti3 rfl rfl) ?_)
      have hc60 := ((H.ro 0 rfl).at hx56 hi57).fst.int
      refine st (v := (I x55.1)) (rv_load1 Tryz.underlying3 rfl rfl hc60) ?_
      replace H := H.roLow 0 0 rfl (Nat.zero_le _)
      revert h; refine br fun r61 hx62 h => ?_
      have hc63 := c_impl_DropItem (Ap := a5) (Aq := c6) hx62
      refine st_call (cx_call hc63 (ent_f hc63.fn rfl) hn0 (H.sel' [0, 0, 1, 2] rfl rfl : Hp S0 σ0 _ ([_] ++ _))) wn ?_
      rintro _ σ66 ⟨_, ⟨a64, c65, rfl, rfl⟩, H, -⟩
      replace H : Hp _ _ _ [_, _, _, _] := H
      refine sm (.tuple #[(Sl a64 r61.1 c65), (B r61.2)]) rfl (st (v := (Sl a64 r61.1 c65)) (rv_extract rfl rfl) (st (v := (B r61.2)) (rv_extract rfl rfl) (sa (Sl a64 r61.1 c65) rfl (sa (B r61.2) rfl (w_end (q_then (c_seq ?_)))))))
      obtain ⟨o67, hj, h'⟩ := bind_some h
      clear h
      refine c_cut (fun e a w => e = .normal ∧ ∃ (ρ : Nat → Value) (σ : St), a = fr 88 (updL ρ [(3, (Sl a5 r2.1 c6)), (4, (I r2.2.1)), (5, (I r2.2.2)), (6, (Sl a11 r8 c12)), (7, (I s48)), (82, (B o67))]) ∧ w = σ.w ∧ Hp S0 σ0 σ [Ch.ro n0 (Sl a5 r2.1 c6) r2.1, Ch.ro n0 (Sl a11 r8 c12) r8]) ?_ ?_
      ·clear h'
       rename _ = some o67 => h
       obtain ⟨σ68, hw69, H, -⟩ := H.pub 0 rfl (Nat.le_refl _)
       rw [← hw69]; clear hw69
       rcases Bool.eq_false_or_eq_true (!r61.2) with hb70 | hb70
       ·replace h := bif_t hb70 h
        have Hs := H
        refine rg2 (σ := σ68) (Nm := Unit) 23 [] [[]] [[(0, 0)], [(0, 0)], [(0, 0)], [(0, 0)], [(0, 0)], [(0, 0)], [(0, 0)], [(0, 0)], [(0, 0)], [(0, 0)], [(0, 0)], [(0, 0)], [(0, 0)], [(0, 0)], [(0, 0)], [(0, 0)], [(0, 0)], [(0, 0)], [(0, 0)], [(0, 0)], [(0, 0)], [(0, 0)], [(0, 0)]] 0 [fun _ => fun σm => Hp S0 σ0 σm [Ch.ro 0 (Sl a64 r61.1 c65) r61.1, Ch.ro 0 (Sl a5 r2.1 c6) r2.1, Ch.ro n0 (Sl a5 r2.1 c6) r2.1, Ch.ro n0 (Sl a11 r8 c12) r8] ∧ Md (cov []) σ68 σm] [fun _ => (B r61.2), fun _ => (B (!r61.2)), fun _ => (B (!r61.2)), fun _ => undef, fun _ => undef, fun _ => undef, fun _ => undef, fun _ => (B true), fun _ => (B true), fun _ => undef, fun _ => undef, fun _ => undef, fun _ => undef, fun _ => undef, fun _ => undef, fun _ => undef, fun _ => undef, fun _ => undef, fun _ => undef, fun _ => undef, fun _ => undef, fun _ => undef, fun _ => undef] () (by kernel_rfl) (by kernel_rfl) ?_ ?_ ?_
        ·intro σm m0
         exact ⟨H.grow (m0.mono fun _ h => h.elim), m0⟩
        ·refine ac rfl (by
           intro k _nm ρ σm hJ hoff hdep
           have e9 := look_off (N := 88) (hoff 9 rfl) rfl
           exact dp_v (v := (B r61.2)) wn (rv_move e9) rfl hJ) ?_
         refine ac rfl (by
           intro k _nm ρ σm hJ hoff hdep
           have e57 := hdep 0 rfl rfl 57 rfl
           exact dp_v (v := (B (!r61.2))) wn (rv_not e57) rfl hJ) ?_
         refine ac rfl (by
           intro k _nm ρ σm hJ hoff hdep
           have e58 := hdep 1 rfl rfl 58 rfl
           exact dp_v (v := (B (!r61.2))) wn (rv_move e58) rfl hJ) ?_
         refine ac rfl (by
           intro k _nm ρ σm hJ hoff hdep
           have e59 := hdep 2 rfl rfl 59 rfl
           exact dp_skip (wanted_no rfl (yv_of rfl (e59.trans (congrArg B hb70)))) rfl hJ) ?_
         refine ac rfl (by
           intro k _nm ρ σm hJ hoff hdep
           have e59 := hdep 2 rfl rfl 59 rfl
           exact dp_skip (wanted_no rfl (yv_of rfl (e59.trans (congrArg B hb70)))) rfl hJ) ?_
         refine ac rfl (by
           intro k _nm ρ σm hJ hoff hdep
           have e59 := hdep 2 rfl rfl 59 rfl
           exact dp_skip (wanted_no rfl (yv_of rfl (e59.trans (congrArg B hb70)))) rfl hJ) ?_
         refine ac rfl (by
           intro k _nm ρ σm hJ hoff hdep
           have e59 := hdep 2 rfl rfl 59 rfl
           exact dp_skip (wanted_no rfl (yv_of rfl (e59.trans (congrArg B hb70)))) rfl hJ) ?_
         refine ac rfl (by
           intro k _nm ρ σm hJ hoff hdep
           have e59 := hdep 2 rfl rfl 59 rfl
           exact dp_v (v := (B true)) wn (rv_pick_t (e59.trans (congrArg B hb70)) rfl) rfl hJ) ?_
         refine ac rfl (by
           intro k _nm ρ σm hJ hoff hdep
           have e64 := hdep 7 rfl rfl 64 rfl
           exact dp_v (v := (B true)) wn (rv_move e64) rfl hJ) ?_
         refine ac rfl (by
           intro k _nm ρ σm hJ hoff hdep
           have e65 := hdep 8 rfl rfl 65 rfl
           exact dp_skip (wanted_no rfl (yv_of rfl e65)) rfl hJ) ?_
         refine ac rfl (by
           intro k _nm ρ σm hJ hoff hdep
           have e65 := hdep 8 rfl rfl 65 rfl
           exact dp_skip (wanted_no rfl (yv_of rfl e65)) rfl hJ) ?_
         refine ac rfl (by
           intro k _nm ρ σm hJ hoff hdep
           have e65 := hdep 8 rfl rfl 65 rfl
           exact dp_skip (wanted_no rfl (yv_of rfl e65)) rfl hJ) ?_
         refine ac rfl (by
           intro k _nm ρ σm hJ hoff hdep
           have e65 := hdep 8 rfl rfl 65 rfl
           exact dp_skip (wanted_no rfl (yv_of rfl e65)) rfl hJ) ?_
         refine ac rfl (by
           intro k _nm ρ σm hJ hoff hdep
           have e65 := hdep 8 rfl rfl 65 rfl
           exact dp_skip (wanted_no rfl (yv_of rfl e65)) rfl hJ) ?_
         refine ac rfl (by
           intro k _nm ρ σm hJ hoff hdep
           have e65 := hdep 8 rfl rfl 65 rfl
           exact dp_skip (wanted_no rfl (yv_of rfl e65)) rfl hJ) ?_
         refine ac rfl (by
           intro k _nm ρ σm hJ hoff hdep
           have e65 := hdep 8 rfl rfl 65 rfl
           exact dp_skip (wanted_no rfl (yv_of rfl e65)) rfl hJ) ?_
         refine ac rfl (by
           intro k _nm ρ σm hJ hoff hdep
           have e65 := hdep 8 rfl rfl 65 rfl
           exact dp_skip (wanted_no rfl (yv_of rfl e65)) rfl hJ) ?_
         refine ac rfl (by
           intro k _nm ρ σm hJ hoff hdep
           have e65 := hdep 8 rfl rfl 65 rfl
           exact dp_skip (wanted_no rfl (yv_of rfl e65)) rfl hJ) ?_
         refine ac rfl (by
           intro k _nm ρ σm hJ hoff hdep
           have e65 := hdep 8 rfl rfl 65 rfl
           exact dp_skip (wanted_no rfl (yv_of rfl e65)) rfl hJ) ?_
         refine ac rfl (by
           intro k _nm ρ σm hJ hoff hdep
           have e65 := hdep 8 rfl rfl 65 rfl
           exact dp_skip (wanted_no rfl (yv_of rfl e65)) rfl hJ) ?_
         refine ac rfl (by
           intro k _nm ρ σm hJ hoff hdep
           have e65 := hdep 8 rfl rfl 65 rfl
           exact dp_skip (wanted_no rfl (yv_of rfl e65)) rfl hJ) ?_
         refine ac rfl (by
           intro k _nm ρ σm hJ hoff hdep
           have e65 := hdep 8 rfl rfl 65 rfl
           exact dp_skip (wanted_no rfl (yv_of rfl e65)) rfl hJ) ?_
         refine ac rfl (by
           intro k _nm ρ σm hJ hoff hdep
           have e65 := hdep 8 rfl rfl 65 rfl
           exact dp_skip (wanted_no rfl (yv_of rfl e65)) rfl hJ) ?_
         exact all_nil
        ·intro _nm ρ σ71 hJ hoff hrel
         have e3 := look_off (N := 88) (hoff 3 rfl) rfl
         have e4 := look_off (N := 88) (hoff 4 rfl) rfl
         have e5 := look_off (N := 88) (hoff 5 rfl) rfl
         have e6 := look_off (N := 88) (hoff 6 rfl) rfl
         have e7 := look_off (N := 88) (hoff 7 rfl) rfl
         have e65 := hrel 8 rfl 65 rfl
         have e69 := hrel 12 rfl 69 rfl
         have e79 := hrel 22 rfl 79 rfl
         obtain ⟨H, -⟩ := (show Hp S0 σ0 σ71 [Ch.ro 0 (Sl a64 r61.1 c65) r61.1, Ch.ro 0 (Sl a5 r2.1 c6) r2.1, Ch.ro n0 (Sl a5 r2.1 c6) r2.1, Ch.ro n0 (Sl a11 r8 c12) r8] ∧ Md (cov []) σ68 σ71 from hJ)
         clear hJ Hs
         rw [fr_lookL (L := [(3, (Sl a5 r2.1 c6)), (4, (I r2.2.1)), (5, (I r2.2.2)), (6, (Sl a11 r8 c12)), (7, (I s48)), (65, (B true)), (69, undef), (79, undef)]) ⟨e3, e4, e5, e6, e7, e65, e69, e79, trivial⟩]
         clear hoff hrel e3 e4 e5 e6 e7 e65 e69 e79
         refine st_skip rfl (st_skip rfl (st (v := (B true)) (rv_pick_t rfl rfl) (w_end ?_)))
         obtain rfl := sj h
         exact ⟨rfl, _, σ71, fr_join ⟨rfl, rfl, rfl, rfl, rfl, rfl, trivial⟩, rfl, H.sel' [2, 3] rfl rfl⟩
       ·replace h := bif_f hb70 h
        rcases Bool.eq_false_or_eq_true (decide ((r8.length : Int) ≤ s48)) with hb72 | hb72
        ·replace h := bif_t hb72 h
         have Hs := H
         refine rg2 (σ := σ68) (Nm := Unit) 23 [] [[]] [[(0, 0)], [(0, 0)], [(0, 0)], [(0, 0)], [(0, 0)], [(0, 0)], [(0, 0)], [(0, 0)], [(0, 0)], [(0, 0)], [(0, 0)], [(0, 0)], [(0, 0)], [(0, 0)], [(0, 0)], [(0, 0)], [(0, 0)], [(0, 0)], [(0, 0)], [(0, 0)], [(0, 0)], [(0, 0)], [(0, 0)]] 0 [fun _ => fun σm => Hp S0 σ0 σm [Ch.ro 0 (Sl a64 r61.1 c65) r61.1, Ch.ro 0 (Sl a5 r2.1 c6) r2.1, Ch.ro n0 (Sl a5 r2.1 c6) r2.1, Ch.ro n0 (Sl a11 r8 c12) r8] ∧ Md (cov []) σ68 σm] [fun _ => (B r61.2), fun _ => (B (!r61.2)), fun _ => (B (!r61.2)), fun _ => (I s48), fun _ => (Sl a11 r8 c12), fun _ => (I (r8.length : Int)), fun _ => (B (decide ((r8.length : Int) ≤ s48))), fun _ => (B (decide ((r8.length : Int) ≤ s48))), fun _ => (B (decide ((r8.length : Int) ≤ s48))), fun _ => undef, fun _ => undef, fun _ => undef, fun _ => undef, fun _ => undef, fun _ => undef, fun _ => undef, fun _ => undef, fun _ => undef, fun _ => undef, fun _ => undef, fun _ => undef, fun _ => undef, fun _ => undef] () (by kernel_rfl) (by kernel_rfl) ?_ ?_ ?_
         ·intro σm m0
          exact ⟨H.grow (m0.mono fun _ h => h.elim), m0⟩
         ·refine ac rfl (by
            intro k _nm ρ σm hJ hoff hdep
            have e9 := look_off (N := 88) (hoff 9 rfl) rfl
            exact dp_v (v := (B r61.2)) wn (rv_move e9) rfl hJ) ?_
          refine ac rfl (by
            intro k _nm ρ σm hJ hoff hdep
            have e57 := hdep 0 rfl rfl 57 rfl
            exact dp_v (v := (B (!r61.2))) wn (rv_not e57) rfl hJ) ?_
          refine ac rfl (by
            intro k _nm ρ σm hJ hoff hdep
            have e58 := hdep 1 rfl rfl 58 rfl
            exact dp_v (v := (B (!r61.2))) wn (rv_move e58) rfl hJ) ?_
          refine ac rfl (by
            intro k _nm ρ σm hJ hoff hdep
            have e7 := look_off (N := 88) (hoff 7 rfl) rfl
            have e59 := hdep 2 rfl rfl 59 rfl
            exact dp_v (v := (I s48)) (wanted_yes rfl (yv_of rfl (e59.trans (congrArg B hb70)))) (rv_move e7) rfl hJ) ?_
          refine ac rfl (by
            intro k _nm ρ σm hJ hoff hdep
            have e6 := look_off (N := 88) (hoff 6 rfl) rfl
            have e59 := hdep 2 rfl rfl 59 rfl
            exact dp_v (v := (Sl a11 r8 c12)) (wanted_yes rfl (yv_of rfl (e59.trans (congrArg B hb70)))) (rv_move e6) rfl hJ) ?_
          refine ac rfl (by
            intro k _nm ρ σm hJ hoff hdep
            have e61 := hdep 4 rfl rfl 61 rfl
            have e59 := hdep 2 rfl rfl 59 rfl
            exact dp_v (v := (I (r8.length : Int))) (wanted_yes rfl (yv_of rfl (e59.trans (congrArg B hb70)))) (rv_len Tryz.underlying23 e61) rfl hJ) ?_
          refine ac rfl (by
            intro k _nm ρ σm hJ hoff hdep
            have e60 := hdep 3 rfl rfl 60 rfl
            have e62 := hdep 5 rfl rfl 62 rfl
            have e59 := hdep 2 rfl rfl 59 rfl
            exact dp_v (v := (B (decide ((r8.length : Int) ≤ s48)))) (wanted_yes rfl (yv_of rfl (e59.trans (congrArg B hb70)))) (rv_geq (a := s48) (b := (r8.length : Int)) e60 e62) rfl hJ) ?_
          refine ac rfl (by
            intro k _nm ρ σm hJ hoff hdep
            have e59 := hdep 2 rfl rfl 59 rfl
            have e63 := hdep 6 rfl rfl 63 rfl
            exact dp_v (v := (B (decide ((r8.length : Int) ≤ s48)))) wn (rv_pick_f (e59.trans (congrArg B hb70)) e63) rfl hJ) ?_
          refine ac rfl (by
            intro k _nm ρ σm hJ hoff hdep
            have e64 := hdep 7 rfl rfl 64 rfl
            exact dp_v (v := (B (decide ((r8.length : Int) ≤ s48)))) wn (rv_move e64) rfl hJ) ?_
          refine ac rfl (by
            intro k _nm ρ σm hJ hoff hdep
            have e65 := hdep 8 rfl rfl 65 rfl
            exact dp_skip (wanted_no rfl (yv_of rfl (e65.trans (congrArg B hb72)))) rfl hJ) ?_
          refine ac rfl (by
            intro k _nm ρ σm hJ hoff hdep
            have e65 := hdep 8 rfl rfl 65 rfl
            exact dp_skip (wanted_no rfl (yv_of rfl (e65.trans (congrArg B hb72)))) rfl hJ) ?_
          refine ac rfl (by
            intro k _nm ρ σm hJ hoff hdep
            have e65 := hdep 8 rfl rfl 65 rfl
            exact dp_skip (wanted_no rfl (yv_of rfl (e65.trans (congrArg B hb72)))) rfl hJ) ?_
          refine ac rfl (by
            intro k _nm ρ σm hJ hoff hdep
            have e65 := hdep 8 rfl rfl 65 rfl
            exact dp_skip (wanted_no rfl (yv_of rfl (e65.trans (congrArg B hb72)))) rfl hJ) ?_
          refine ac rfl (by
            intro k _nm ρ σm hJ hoff hdep
            have e65 := hdep 8 rfl rfl 65 rfl
            exact dp_skip (wanted_no rfl (yv_of rfl (e65.trans (congrArg B hb72)))) rfl hJ) ?_
          refine ac rfl (by
            intro k _nm ρ σm hJ hoff hdep
            have e65 := hdep 8 rfl rfl 65 rfl
            exact dp_skip (wanted_no rfl (yv_of rfl (e65.trans (congrArg B hb72)))) rfl hJ) ?_
          refine ac rfl (by
            intro k _nm ρ σm hJ hoff hdep
            have e65 := hdep 8 rfl rfl 65 rfl
            exact dp_skip (wanted_no rfl (yv_of rfl (e65.trans (congrArg B hb72)))) rfl hJ) ?_
          refine ac rfl (by
            intro k _nm ρ σm hJ hoff hdep
            have e65 := hdep 8 rfl rfl 65 rfl
            exact dp_skip (wanted_no rfl (yv_of rfl (e65.trans (congrArg B hb72)))) rfl hJ) ?_
          refine ac rfl (by
            intro k _nm ρ σm hJ hoff hdep
            have e65 := hdep 8 rfl rfl 65 rfl
            exact dp_skip (wanted_no rfl (yv_of rfl (e65.trans (congrArg B hb72)))) rfl hJ) ?_
          refine ac rfl (by
            intro k _nm ρ σm hJ hoff hdep
            have e65 := hdep 8 rfl rfl 65 rfl
            exact dp_skip (wanted_no rfl (yv_of rfl (e65.trans (congrArg B hb72)))) rfl hJ) ?_
          refine ac rfl (by
            intro k _nm ρ σm hJ hoff hdep
            have e65 := hdep 8 rfl rfl 65 rfl
            exact dp_skip (wanted_no rfl (yv_of rfl (e65.trans (congrArg B hb72)))) rfl hJ) ?_
          refine ac rfl (by
            intro k _nm ρ σm hJ hoff hdep
            have e65 := hdep 8 rfl rfl 65 rfl
            exact dp_skip (wanted_no rfl (yv_of rfl (e65.trans (congrArg B hb72)))) rfl hJ) ?_
          refine ac rfl (by
            intro k _nm ρ σm hJ hoff hdep
            have e65 := hdep 8 rfl rfl 65 rfl
            exact dp_skip (wanted_no rfl (yv_of rfl (e65.trans (congrArg B hb72)))) rfl hJ) ?_
          refine ac rfl (by
            intro k _nm ρ σm hJ hoff hdep
            have e65 := hdep 8 rfl rfl 65 rfl
            exact dp_skip (wanted_no rfl (yv_of rfl (e65.trans (congrArg B hb72)))) rfl hJ) ?_
          exact all_nil
         ·intro _nm ρ σ73 hJ hoff hrel
          have e3 := look_off (N := 88) (hoff 3 rfl) rfl
          have e4 := look_off (N := 88) (hoff 4 rfl) rfl
          have e5 := look_off (N := 88) (hoff 5 rfl) rfl
          have e6 := look_off (N := 88) (hoff 6 rfl) rfl
          have e7 := look_off (N := 88) (hoff 7 rfl) rfl
          have e65 := hrel 8 rfl 65 rfl
          have e69 := hrel 12 rfl 69 rfl
          have e79 := hrel 22 rfl 79 rfl
          obtain ⟨H, -⟩ := (show Hp S0 σ0 σ73 [Ch.ro 0 (Sl a64 r61.1 c65) r61.1, Ch.ro 0 (Sl a5 r2.1 c6) r2.1, Ch.ro n0 (Sl a5 r2.1 c6) r2.1, Ch.ro n0 (Sl a11 r8 c12) r8] ∧ Md (cov []) σ68 σ73 from hJ)
          clear hJ Hs
          rw [fr_lookL (L := [(3, (Sl a5 r2.1 c6)), (4, (I r2.2.1)), (5, (I r2.2.2)), (6, (Sl a11 r8 c12)), (7, (I s48)), (65, (B (decide ((r8.length : Int) ≤ s48)))), (69, undef), (79, undef)]) ⟨e3, e4, e5, e6, e7, e65, e69, e79, trivial⟩]
          clear hoff hrel e3 e4 e5 e6 e7 e65 e69 e79
          refine st_skip (congrArg some hb72) (st_skip (congrArg some hb72) (st (v := (B true)) (rv_pick_t (congrArg B hb72) rfl) (w_end ?_)))
          obtain rfl := sj h
          exact ⟨rfl, _, σ73, fr_join ⟨rfl, rfl, rfl, rfl, rfl, rfl, trivial⟩, rfl, H.sel' [2, 3] rfl rfl⟩
        ·replace h := bif_f hb72 h
         revert h; refine br fun x74 hx75 h => ?_
         obtain ⟨b77, o78, hi76, -⟩ := (H.ro 3 rfl).ix hx75
         obtain ⟨v82, hc83, hR81⟩ := ((H.ro 3 rfl).at hx75 hi76).slice
         obtain ⟨a79, c80, rfl⟩ := hR81.isSl
         replace H := H.add (d := Ch.ro n0 (Sl a79 x74 c80) x74) hR81 (fun _ h => h)
         clear hR81
         revert h; refine br fun x84 hx85 h => ?_
         obtain ⟨b87, o88, hi86, -⟩ := (H.ro 3 rfl).ix hx85
         obtain ⟨v92, hc93, hR91⟩ := ((H.ro 3 rfl).at hx85 hi86).snd.fst.slice
         obtain ⟨a89, c90, rfl⟩ := hR91.isSl
         replace H := H.add (d := Ch.ro n0 (Sl a89 x84.2.1 c90) x84.2.1) hR91 (fun _ h => h)
         clear hR91
         replace H := H.roLow 0 0 rfl (Nat.zero_le _)
         revert h; refine br fun r94 hx95 h => ?_
         have hc96 := c_impl_Nearest (Ap := a64) (Aq := c65) (Ax := a89) (Ay := c90) hx95
         revert h; refine br fun r99 hx100 h => ?_
         have hc101 := fun (a97 : Option Addr) (c98 : Nat) => c_laws_keys (Ap := a97) (Aq := c98) hx100
         have Hs := H
         refine rg2 (σ := σ68) (Nm := (Option Addr) × (Nat) × (Option Addr) × (Nat)) 23 [21, 22] [[false, false], [true, false], [true, true]] [[(0, 0)], [(0, 0)], [(0, 0)], [(0, 0)], [(0, 0)], [(0, 0)], [(0, 0)], [(0, 0)], [(0, 0)], [(0, 0), (1, 1), (2, 2)], [(0, 0), (1, 1), (2, 2)], [(0, 0), (1, 1), (2, 2)], [(0, 0), (1, 1), (2, 2)], [(0, 0)], [(0, 0)], [(0, 0)], [(0, 0)], [(0, 0)], [(0, 0)], [(0, 0)], [(0, 0)], [(0, 1)], [(1, 2)]] 2 [fun ((a97, c98, a102, c103) : (Option Addr) × (Nat) × (Option Addr) × (Nat)) => fun σm => Hp S0 σ0 σm [Ch.ro 0 (Sl a89 x84.2.1 c90) x84.2.1, Ch.ro n0 (Sl a89 x84.2.1 c90) x84.2.1, Ch.ro n0 (Sl a79 x74 c80) x74, Ch.ro 0 (Sl a64 r61.1 c65) r61.1, Ch.ro 0 (Sl a5 r2.1 c6) r2.1, Ch.ro n0 (Sl a5 r2.1 c6) r2.1, Ch.ro n0 (Sl a11 r8 c12) r8] ∧ Md (cov []) σ68 σm, fun ((a97, c98, a102, c103) : (Option Addr) × (Nat) × (Option Addr) × (Nat)) => fun σm => Hp S0 σ0 σm [Ch.ro 0 (Sl a97 r94 c98) r94, Ch.ro 0 (Sl a89 x84.2.1 c90) x84.2.1, Ch.ro n0 (Sl a89 x84.2.1 c90) x84.2.1, Ch.ro n0 (Sl a79 x74 c80) x74, Ch.ro 0 (Sl a64 r61.1 c65) r61.1, Ch.ro 0 (Sl a5 r2.1 c6) r2.1, Ch.ro n0 (Sl a5 r2.1 c6) r2.1, Ch.ro n0 (Sl a11 r8 c12) r8] ∧ Md (fun i => (cov []) i ∨ (fun i => (cov [Ch.ro 0 (Sl a64 r61.1 c65) r61.1, Ch.ro 0 (Sl a89 x84.2.1 c90) x84.2.1]) i ∨ (fun b => blk (Sl a97 r94 c98) = some b) i) i) σ68 σm, fun ((a97, c98, a102, c103) : (Option Addr) × (Nat) × (Option Addr) × (Nat)) => fun σm => Hp S0 σ0 σm [Ch.own n0 n0 (Sl a102 r99 c103) r99, Ch.ro 0 (Sl a97 r94 c98) r94, Ch.ro 0 (Sl a89 x84.2.1 c90) x84.2.1, Ch.ro n0 (Sl a89 x84.2.1 c90) x84.2.1, Ch.ro n0 (Sl a79 x74 c80) x74, Ch.ro 0 (Sl a64 r61.1 c65) r61.1, Ch.ro 0 (Sl a5 r2.1 c6) r2.1, Ch.ro n0 (Sl a5 r2.1 c6) r2.1, Ch.ro n0 (Sl a11 r8 c12) r8] ∧ Md (fun i => (cov []) i ∨ (fun i => (cov [Ch.ro 0 (Sl a64 r61.1 c65) r61.1, Ch.ro 0 (Sl a89 x84.2.1 c90) x84.2.1]) i ∨ (fun b => blk (Sl a97 r94 c98) = some b) i) i) σ68 σm] [fun ((a97, c98, a102, c103) : (Option Addr) × (Nat) × (Option Addr) × (Nat)) => (B r61.2), fun ((a97, c98, a102, c103) : (Option Addr) × (Nat) × (Option Addr) × (Nat)) => (B (!r61.2)), fun ((a97, c98, a102, c103) : (Option Addr) × (Nat) × (Option Addr) × (Nat)) => (B (!r61.2)), fun ((a97, c98, a102, c103) : (Option Addr) × (Nat) × (Option Addr) × (Nat)) => (I s48), fun ((a97, c98, a102, c103) : (Option Addr) × (Nat) × (Option Addr) × (Nat)) => (Sl a11 r8 c12), fun ((a97, c98, a102, c103) : (Option Addr) × (Nat) × (Option Addr) × (Nat)) => (I (r8.length : Int)), fun ((a97, c98, a102, c103) : (Option Addr) × (Nat) × (Option Addr) × (Nat)) => (B (decide ((r8.length : Int) ≤ s48))), fun ((a97, c98, a102, c103) : (Option Addr) × (Nat) × (Option Addr) × (Nat)) => (B (decide ((r8.length : Int) ≤ s48))), fun ((a97, c98, a102, c103) : (Option Addr) × (Nat) × (Option Addr) × (Nat)) => (B (decide ((r8.length : Int) ≤ s48))), fun ((a97, c98, a102, c103) : (Option Addr) × (Nat) × (Option Addr) × (Nat)) => (Sl a11 r8 c12), fun ((a97, c98, a102, c103) : (Option Addr) × (Nat) × (Option Addr) × (Nat)) => (I s48), fun ((a97, c98, a102, c103) : (Option Addr) × (Nat) × (Option Addr) × (Nat)) => (pt b77 o78), fun ((a97, c98, a102, c103) : (Option Addr) × (Nat) × (Option Addr) × (Nat)) => (Sl a79 x74 c80), fun ((a97, c98, a102, c103) : (Option Addr) × (Nat) × (Option Addr) × (Nat)) => (Sl a64 r61.1 c65), fun ((a97, c98, a102, c103) : (Option Addr) × (Nat) × (Option Addr) × (Nat)) => (I r2.2.1), fun ((a97, c98, a102, c103) : (Option Addr) × (Nat) × (Option Addr) × (Nat)) => (Sl a5 r2.1 c6), fun ((a97, c98, a102, c103) : (Option Addr) × (Nat) × (Option Addr) × (Nat)) => (I s48), fun ((a97, c98, a102, c103) : (Option Addr) × (Nat) × (Option Addr) × (Nat)) => (pt b87 o88), fun ((a97, c98, a102, c103) : (Option Addr) × (Nat) × (Option Addr) × (Nat)) => (pt b87 (o88 + 1)), fun ((a97, c98, a102, c103) : (Option Addr) × (Nat) × (Option Addr) × (Nat)) => (Sl a89 x84.2.1 c90), fun ((a97, c98, a102, c103) : (Option Addr) × (Nat) × (Option Addr) × (Nat)) => (I r2.2.2), fun ((a97, c98, a102, c103) : (Option Addr) × (Nat) × (Option Addr) × (Nat)) => (Sl a97 r94 c98), fun ((a97, c98, a102, c103) : (Option Addr) × (Nat) × (Option Addr) × (Nat)) => (Sl a102 r99 c103)] (none, 0, none, 0) (by kernel_rfl) (by kernel_rfl) ?_ ?_ ?_
         ·intro σm m0
          exact ⟨H.grow (m0.mono fun _ h => h.elim), m0⟩
         ·refine ac rfl (by
            intro k; rintro ⟨a97, c98, a102, c103⟩ ρ σm hJ hoff hdep
            have e9 := look_off (N := 88) (hoff 9 rfl) rfl
            exact dp_v (v := (B r61.2)) wn (rv_move e9) rfl hJ) ?_
          refine ac rfl (by
            intro k; rintro ⟨a97, c98, a102, c103⟩ ρ σm hJ hoff hdep
            have e57 := hdep 0 rfl rfl 57 rfl
            exact dp_v (v := (B (!r61.2))) wn (rv_not e57) rfl hJ) ?_
          refine ac rfl (by
            intro k; rintro ⟨a97, c98, a102, c103⟩ ρ σm hJ hoff hdep
            have e58 := hdep 1 rfl rfl 58 rfl
            exact dp_v (v := (B (!r61.2))) wn (rv_move e58) rfl hJ) ?_
          refine ac rfl (by
            intro k; rintro ⟨a97, c98, a102, c103⟩ ρ σm hJ hoff hdep
            have e7 := look_off (N := 88) (hoff 7 rfl) rfl
            have e59 := hdep 2 rfl rfl 59 rfl
            exact dp_v (v := (I s48)) (wanted_yes rfl (yv_of rfl (e59.trans (congrArg B hb70)))) (rv_move e7) rfl hJ) ?_
          refine ac rfl (by
            intro k; rintro ⟨a97, c98, a102, c103⟩ ρ σm hJ hoff hdep
            have e6 := look_off (N := 88) (hoff 6 rfl) rfl
            have e59 := hdep 2 rfl rfl 59 rfl
            exact dp_v (v := (Sl a11 r8 c12)) (wanted_yes rfl (yv_of rfl (e59.trans (congrArg B hb70)))) (rv_move e6) rfl hJ) ?_
          refine ac rfl (by
            intro k; rintro ⟨a97, c98, a102, c103⟩ ρ σm hJ hoff hdep
            have e61 := hdep 4 rfl rfl 61 rfl
            have e59 := hdep 2 rfl rfl 59 rfl
            exact dp_v (v := (I (r8.length : Int))) (wanted_yes rfl (yv_of rfl (e59.trans (congrArg B hb70)))) (rv_len Tryz.underlying23 e61) rfl hJ) ?_
          refine ac rfl (by
            intro k; rintro ⟨a97, c98, a102, c103⟩ ρ σm hJ hoff hdep
            have e60 := hdep 3 rfl rfl 60 rfl
            have e62 := hdep 5 rfl rfl 62 rfl
            have e59 := hdep 2 rfl rfl 59 rfl
            exact dp_v (v := (B (decide ((r8.length : Int) ≤ s48)))) (wanted_yes rfl (yv_of rfl (e59.trans (congrArg B hb70)))) (rv_geq (a := s48) (b := (r8.length : Int)) e60 e62) rfl hJ) ?_
          refine ac rfl (by
            intro k; rintro ⟨a97, c98, a102, c103⟩ ρ σm hJ hoff hdep
            have e59 := hdep 2 rfl rfl 59 rfl
            have e63 := hdep 6 rfl rfl 63 rfl
            exact dp_v (v := (B (decide ((r8.length : Int) ≤ s48)))) wn (rv_pick_f (e59.trans (congrArg B hb70)) e63) rfl hJ) ?_
          refine ac rfl (by
            intro k; rintro ⟨a97, c98, a102, c103⟩ ρ σm hJ hoff hdep
            have e64 := hdep 7 rfl rfl 64 rfl
            exact dp_v (v := (B (decide ((r8.length : Int) ≤ s48)))) wn (rv_move e64) rfl hJ) ?_
          refine ac rfl (by
            intro k; rintro ⟨a97, c98, a102, c103⟩ ρ σm hJ hoff hdep
            have e6 := look_off (N := 88) (hoff 6 rfl) rfl
            have e65 := hdep 8 rfl rfl 65 rfl
            exact dp_v (v := (Sl a11 r8 c12)) (wanted_yes rfl (yv_of rfl (e65.trans (congrArg B hb72)))) (rv_move e6) rfl hJ) ?_
          refine ac rfl (by
            intro k; rintro ⟨a97, c98, a102, c103⟩ ρ σm hJ hoff hdep
            have e7 := look_off (N := 88) (hoff 7 rfl) rfl
            have e65 := hdep 8 rfl rfl 65 rfl
            exact dp_v (v := (I s48)) (wanted_yes rfl (yv_of rfl (e65.trans (congrArg B hb72)))) (rv_move e7) rfl hJ) ?_
          refine ac rfl (by
            intro k; rintro ⟨a97, c98, a102, c103⟩ ρ σm hJ hoff hdep
            have e66 := hdep 9 rfl rfl 66 rfl
            have e67 := hdep 10 rfl rfl 67 rfl
            have e65 := hdep 8 rfl rfl 65 rfl
            exact dp_v (v := (pt b77 o78)) (wanted_yes rfl (yv_of rfl (e65.trans (congrArg B hb72)))) (rv_ix Tryz.underlying23 ti27 e66 e67 hi76) rfl hJ) ?_
          refine all_cons (by
            refine ⟨?_, ?_⟩
            ·rintro ⟨a97, c98, a102, c103⟩ ρ σm hJ hoff hdep
             have e68 := hdep 11 rfl rfl 68 rfl
             have e65 := hdep 8 rfl rfl 65 rfl
             obtain ⟨H, m⟩ := id hJ
             replace hc83 := (Hs.ro 6 rfl).hmd hx75 hi76 (k := 0) (by decide) hc83 m
             exact dp_v (v := (Sl a79 x74 c80)) (wanted_yes rfl (yv_of rfl (e65.trans (congrArg B hb72)))) (rv_load1 Tryz.underlying27 rfl e68 hc83) rfl hJ
            refine ⟨?_, ?_⟩
            ·rintro ⟨a97, c98, a102, c103⟩ ρ σm hJ hoff hdep
             have e68 := hdep 11 rfl rfl 68 rfl
             have e65 := hdep 8 rfl rfl 65 rfl
             obtain ⟨H, m⟩ := id hJ
             replace hc83 := (Hs.ro 6 rfl).hmd hx75 hi76 (k := 0) (by decide) hc83 m
             exact dp_v (v := (Sl a79 x74 c80)) (wanted_yes rfl (yv_of rfl (e65.trans (congrArg B hb72)))) (rv_load1 Tryz.underlying27 rfl e68 hc83) rfl hJ
            refine ⟨?_, ?_⟩
            ·rintro ⟨a97, c98, a102, c103⟩ ρ σm hJ hoff hdep
             have e68 := hdep 11 rfl rfl 68 rfl
             have e65 := hdep 8 rfl rfl 65 rfl
             obtain ⟨H, m⟩ := id hJ
             replace hc83 := (Hs.ro 6 rfl).hmd hx75 hi76 (k := 0) (by decide) hc83 m
             exact dp_v (v := (Sl a79 x74 c80)) (wanted_yes rfl (yv_of rfl (e65.trans (congrArg B hb72)))) (rv_load1 Tryz.underlying27 rfl e68 hc83) rfl hJ
            trivial) ?_
          refine ac rfl (by
            intro k; rintro ⟨a97, c98, a102, c103⟩ ρ σm hJ hoff hdep
            have e8 := look_off (N := 88) (hoff 8 rfl) rfl
            have e65 := hdep 8 rfl rfl 65 rfl
            exact dp_v (v := (Sl a64 r61.1 c65)) (wanted_yes rfl (yv_of rfl (e65.trans (congrArg B hb72)))) (rv_move e8) rfl hJ) ?_
          refine ac rfl (by
            intro k; rintro ⟨a97, c98, a102, c103⟩ ρ σm hJ hoff hdep
            have e4 := look_off (N := 88) (hoff 4 rfl) rfl
            have e65 := hdep 8 rfl rfl 65 rfl
            exact dp_v (v := (I r2.2.1)) (wanted_yes rfl (yv_of rfl (e65.trans (congrArg B hb72)))) (rv_move e4) rfl hJ) ?_
          refine ac rfl (by
            intro k; rintro ⟨a97, c98, a102, c103⟩ ρ σm hJ hoff hdep
            have e3 := look_off (N := 88) (hoff 3 rfl) rfl
            have e65 := hdep 8 rfl rfl 65 rfl
            exact dp_v (v := (Sl a5 r2.1 c6)) (wanted_yes rfl (yv_of rfl (e65.trans (congrArg B hb72)))) (rv_move e3) rfl hJ) ?_
          refine ac rfl (by
            intro k; rintro ⟨a97, c98, a102, c103⟩ ρ σm hJ hoff hdep
            have e7 := look_off (N := 88) (hoff 7 rfl) rfl
            have e65 := hdep 8 rfl rfl 65 rfl
            exact dp_v (v := (I s48)) (wanted_yes rfl (yv_of rfl (e65.trans (congrArg B hb72)))) (rv_move e7) rfl hJ) ?_
          refine ac rfl (by
            intro k; rintro ⟨a97, c98, a102, c103⟩ ρ σm hJ hoff hdep
            have e72 := hdep 15 rfl rfl 72 rfl
            have e73 := hdep 16 rfl rfl 73 rfl
            have e65 := hdep 8 rfl rfl 65 rfl
            exact dp_v (v := (pt b87 o88)) (wanted_yes rfl (yv_of rfl (e65.trans (congrArg B hb72)))) (rv_ix Tryz.underlying26 ti34 e72 e73 hi86) rfl hJ) ?_
          refine ac rfl (by
            intro k; rintro ⟨a97, c98, a102, c103⟩ ρ σm hJ hoff hdep
            have e74 := hdep 17 rfl rfl 74 rfl
            have e65 := hdep 8 rfl rfl 65 rfl
            exact dp_v (v := (pt b87 (o88 + 1))) (wanted_yes rfl (yv_of rfl (e65.trans (congrArg B hb72)))) (rv_fieldAddr (off := 1) (ft := 27) Tryz.underlying34 rfl ti27 rfl e74) rfl hJ) ?_
          refine all_cons (by
            refine ⟨?_, ?_⟩
            ·rintro ⟨a97, c98, a102, c103⟩ ρ σm hJ hoff hdep
             have e75 := hdep 18 rfl rfl 75 rfl
             have e65 := hdep 8 rfl rfl 65 rfl
             obtain ⟨H, m⟩ := id hJ
             replace hc93 := (Hs.ro 5 rfl).hmd hx85 hi86 (k := 1) (by decide) hc93 m
             exact dp_v (v := (Sl a89 x84.2.1 c90)) (wanted_yes rfl (yv_of rfl (e65.trans (congrArg B hb72)))) (rv_load1 Tryz.underlying27 rfl e75 hc93) rfl hJ
            trivial) ?_
          refine ac rfl (by
            intro k; rintro ⟨a97, c98, a102, c103⟩ ρ σm hJ hoff hdep
            have e5 := look_off (N := 88) (hoff 5 rfl) rfl
            have e65 := hdep 8 rfl rfl 65 rfl
            exact dp_v (v := (I r2.2.2)) (wanted_yes rfl (yv_of rfl (e65.trans (congrArg B hb72)))) (rv_move e5) rfl hJ) ?_
          refine all_cons (by
            refine ⟨?_, ?_⟩
            ·rintro ⟨a97, c98, a102, c103⟩ ρ σm hJ hoff hdep
             have e70 : look 88 ρ 70 = (Sl a64 r61.1 c65) := hdep 13 rfl rfl 70 rfl
             have e71 : look 88 ρ 71 = (I r2.2.1) := hdep 14 rfl rfl 71 rfl
             have e76 : look 88 ρ 76 = (Sl a89 x84.2.1 c90) := hdep 19 rfl rfl 76 rfl
             have e77 : look 88 ρ 77 = (I r2.2.2) := hdep 20 rfl rfl 77 rfl
             have e65 := hdep 8 rfl rfl 65 rfl
             obtain ⟨H, m⟩ := id hJ
             refine dp_cx (wanted_yes rfl (yv_of rfl (e65.trans (congrArg B hb72)))) (cx_call hc96 (ent_f hc96.fn (by show [look 88 ρ 70, look 88 ρ 71, look 88 ρ 76, look 88 ρ 77] = _; rw [e70, e71, e76, e77])) hn0 (H.sel' [3, 0, 0, 1, 2, 3, 4, 5, 6] rfl rfl : Hp S0 σ0 _ ([_, _] ++ _))) ?_
             rintro _ σq ⟨_, ⟨a97x, c98x, rfl, rfl⟩, H2, m2⟩
             obtain ⟨σr0, hwr0, H2, mr0⟩ := H2.pubSc 0 rfl
             exact ⟨_, (a97x, c98x, a102, c103), hwr0, rfl, ⟨H2.sel' [0, 1, 2, 3, 4, 5, 6, 7] rfl rfl, m.comp (m2.comp mr0)⟩, stab [0, 1, 2, 3, 4, 5, 6, 7, 8, 9, 10, 11, 12, 13, 14, 15, 16, 17, 18, 19, 20] (by kernel_rfl) ⟨rfl, rfl, rfl, rfl, rfl, rfl, rfl, rfl, rfl, rfl, rfl, rfl, rfl, rfl, rfl, rfl, rfl, rfl, rfl, rfl, rfl, trivial⟩⟩
            trivial) ?_
          refine all_cons (by
            refine ⟨?_, ?_⟩
            ·rintro ⟨a97, c98, a102, c103⟩ ρ σm hJ hoff hdep
             have e78 : look 88 ρ 78 = (Sl a97 r94 c98) := hdep 21 rfl rfl 78 rfl
             have e65 := hdep 8 rfl rfl 65 rfl
             obtain ⟨H, m⟩ := id hJ
             refine dp_cx (wanted_yes rfl (yv_of rfl (e65.trans (congrArg B hb72)))) (cx_call (hc101 a97 c98) (ent_f (hc101 a97 c98).fn (by show [look 88 ρ 78] = _; rw [e78])) hn0 (H.sel' [0, 0, 1, 2, 3, 4, 5, 6, 7] rfl rfl : Hp S0 σ0 _ ([_] ++ _))) ?_
             rintro _ σq ⟨_, ⟨a102x, c103x, rfl, rfl⟩, H2, m2⟩
             exact ⟨_, (a97, c98, a102x, c103x), rfl, rfl, ⟨H2.sel' [0, 1, 2, 3, 4, 5, 6, 7, 8] rfl rfl, m.comp0 (m2.mono (fun i h => by simp [cov, Ch.ro] at h))⟩, stab [0, 1, 2, 3, 4, 5, 6, 7, 8, 9, 10, 11, 12, 13, 14, 15, 16, 17, 18, 19, 20, 21] (by kernel_rfl) ⟨rfl, rfl, rfl, rfl, rfl, rfl, rfl, rfl, rfl, rfl, rfl, rfl, rfl, rfl, rfl, rfl, rfl, rfl, rfl, rfl, rfl, rfl, trivial⟩⟩
            trivial) ?_
          exact all_nil
         ·rintro ⟨a97, c98, a102, c103⟩ ρ σ104 hJ hoff hrel
          have e3 := look_off (N := 88) (hoff 3 rfl) rfl
          have e4 := look_off (N := 88) (hoff 4 rfl) rfl
          have e5 := look_off (N := 88) (hoff 5 rfl) rfl
          have e6 := look_off (N := 88) (hoff 6 rfl) rfl
          have e7 := look_off (N := 88) (hoff 7 rfl) rfl
          have e65 := hrel 8 rfl 65 rfl
          have e69 := hrel 12 rfl 69 rfl
          have e79 := hrel 22 rfl 79 rfl
          obtain ⟨H, -⟩ := (show Hp S0 σ0 σ104 [Ch.own n0 n0 (Sl a102 r99 c103) r99, Ch.ro 0 (Sl a97 r94 c98) r94, Ch.ro 0 (Sl a89 x84.2.1 c90) x84.2.1, Ch.ro n0 (Sl a89 x84.2.1 c90) x84.2.1, Ch.ro n0 (Sl a79 x74 c80) x74, Ch.ro 0 (Sl a64 r61.1 c65) r61.1, Ch.ro 0 (Sl a5 r2.1 c6) r2.1, Ch.ro n0 (Sl a5 r2.1 c6) r2.1, Ch.ro n0 (Sl a11 r8 c12) r8] ∧ Md (fun i => (cov []) i ∨ (fun i => (cov [Ch.ro 0 (Sl a64 r61.1 c65) r61.1, Ch.ro 0 (Sl a89 x84.2.1 c90) x84.2.1]) i ∨ (fun b => blk (Sl a97 r94 c98) = some b) i) i) σ68 σ104 from hJ)
          clear hJ Hs
          rw [fr_lookL (L := [(3, (Sl a5 r2.1 c6)), (4, (I r2.2.1)), (5, (I r2.2.2)), (6, (Sl a11 r8 c12)), (7, (I s48)), (65, (B (decide ((r8.length : Int) ≤ s48)))), (69, (Sl a79 x74 c80)), (79, (Sl a102 r99 c103))]) ⟨e3, e4, e5, e6, e7, e65, e69, e79, trivial⟩]
          clear hoff hrel e3 e4 e5 e6 e7 e65 e69 e79
          obtain ⟨σ105, hw106, H, -⟩ := H.pub 0 rfl (Nat.le_refl _)
          rw [← hw106]; clear hw106
          replace H := H.roLow 4 0 rfl (Nat.zero_le _)
          replace H := H.roLow 1 0 rfl (Nat.zero_le _)
          revert h; refine br fun r107 hx108 h => ?_
          have hc109 := c_laws_equalInts (Gv := a79) (Gw := c80) (Gx := a102) (Gy := c103) hx108
          refine st_call (cx_call hc109 (ent_f hc109.fn rfl) hn0 (H.sel' [1, 0, 0, 1, 2, 3, 4, 5, 6, 7, 8, 9, 10] rfl rfl : Hp S0 σ0 _ ([_, _] ++ _))) (wanted_yes rfl (by exact (congrArg some hb72))) ?_
          rintro _ σ110 ⟨_, ⟨rfl, rfl⟩, H, -⟩
          replace H : Hp _ _ _ [_, _, _, _, _, _, _, _, _, _, _] := H
          replace H : Hp S0 σ0 σ110 [Ch.ro n0 (Sl a5 r2.1 c6) r2.1, Ch.ro n0 (Sl a11 r8 c12) r8] := H.sel' [9, 10] rfl rfl
          refine st_g (v := (B (!r107))) (congrArg some hb72) (rv_not rfl) (st (v := (B (!r107))) (rv_pick_f (congrArg B hb72) rfl) (w_end ?_))
          obtain rfl := sj h
          exact ⟨rfl, _, σ110, fr_join ⟨rfl, rfl, rfl, rfl, rfl, rfl, trivial⟩, rfl, H.sel' [0, 1] rfl rfl⟩
      ·clear hj
       have h := h'
       clear h' H
       rintro e a w ⟨rfl, ρ, σ111, rfl, rfl, H⟩
       refine q_then ?_
       refine cd_cond o67 rfl (fun hb112 => ?_) (fun hb112 => ?_)
       ·replace h := bif_t hb112 h
        refine c_seq (rg (sa (B false) rfl (w_end (q_then (c_ret (q_blk_r (q_then_r (q_then_r (q_blk_r ?_)))))))))
        obtain rfl := sj h
        obtain rfl := hres _ rfl
        exact .inr (⟨_, rfl, rfl, _, σ111, fr_join ⟨rfl, trivial⟩, rfl, H.sel' [] rfl rfl⟩)
       ·replace h := bif_f hb112 h
        refine c_skip (q_blk (q_then (rg (sm (I s48) rfl (st (v := (I (w64 (s48 + 1)))) (rv_add (a := s48) (b := 1) rfl rfl) (sa (I (w64 (s48 + 1))) rfl (w_end (q_then ?_))))))))
        obtain rfl := sj h
        exact ⟨_, rfl, _, σ111, fr_join ⟨rfl, rfl, rfl, rfl, rfl, trivial⟩, rfl, H.sel' [0, 1] rfl rfl⟩
     ·replace h := bif_f hb54 h
      refine c_exit (q_then_x (q_then_x (q_blk_hit ?_)))
      obtain rfl := sj h
      obtain rfl := hres _ rfl
      exact .inl ⟨_, rfl, rfl, _, σ53, fr_join ⟨rfl, rfl, trivial⟩, rfl, H.sel' [0, 1] rfl rfl⟩
    ·clear hj
     have h := h'
     clear h' H
     rintro e a w (⟨t113, rfl, rfl, ρ, σ114, rfl, rfl, H⟩ | ⟨t115, rfl, rfl, ρ, σ116, rfl, rfl, H⟩)
     ·replace h := selim_l h
      refine q_then (c_seq (rg (sm (Sl a11 r8 c12) rfl (st (v := (I (r8.length : Int))) (rv_len Tryz.underlying23 rfl) (sm (Sl a5 r2.1 c6) rfl (st (v := (I (r2.1.length : Int))) (rv_len Tryz.underlying26 rfl) (st (v := (B ((r8.length : Int) == (r2.1.length : Int)))) (rv_eql (a := (r8.length : Int)) (b := (r2.1.length : Int)) rfl rfl) (sa (B ((r8.length : Int) == (r2.1.length : Int))) rfl (w_end (q_then (c_ret ?_)))))))))))
      obtain rfl := sj h
      exact fin_ret (v := (B ((r8.length : Int) == (r2.1.length : Int)))) (results_ok Tryz.results6 (res_tmp (v := (B ((r8.length : Int) == (r2.1.length : Int)))) rfl res_nil) rfl) ⟨rfl, rfl⟩ (H.sel' [] rfl rfl)
     ·replace h := selim_r h
      refine q_then_r ?_
      obtain rfl := sj h
      exact fin_ret (v := (B t115)) (results_ok Tryz.results6 (res_tmp (v := (B t115)) rfl res_nil) rfl) ⟨rfl, rfl⟩ (H.sel' [] rfl rfl)

end Go.Vs
