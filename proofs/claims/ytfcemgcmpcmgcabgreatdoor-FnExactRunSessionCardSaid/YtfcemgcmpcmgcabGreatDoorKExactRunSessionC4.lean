/- The functions compute what their models say. -/
import Derived.Test.YtfcemgcmpcmgcabGreatDoorKExactRunSessionC3
set_option linter.unusedVariables false
set_option linter.unusedSimpArgs false
set_option maxRecDepth 20000
namespace Go.Vs
open Go Go.Proofs
attribute [local irreducible] Code.wp Code.wpIn wpList wpListIn wpQuiet Calls CallsIn

theorem c_impl_placeOf_1 {Au : Int × (List Int) × Int} {Bb : Int} {Av : Option Addr} {Aw : Nat} {r : Int} (h : M.impl_placeOf_1 Au Bb = some r) :
    Cal2 Tryz.prog 84 [(.agg #[(I Au.1), (Sl Av Au.2.1 Aw), (I Au.2.2)]), (I Bb)] [Ch.ro 0 (Sl Av Au.2.1 Aw) Au.2.1] (fun n0 v L => v = (I r) ∧ L = []) := by
 refine cal2 (n := 9) Tryz.func84 rfl rfl rfl rfl ?_
 intro S0 σ0 n0 hn0 H
 unfold M.impl_placeOf_1 at h
 refine c_seq (rg (st_ex (ex_box (cs := [(I Au.1), (Sl Av Au.2.1 Aw), (I Au.2.2)]) H hn0 rfl rfl) wn ?_))
 rintro _ σ2 ⟨b1, rfl, H, -⟩
 refine sa (I 0) rfl (w_end (q_then (c_seq (rg (st (v := (pt b1 0)) (rv_fieldAddr (off := 0) (ft := 3) Tryz.underlying67 rfl ti3 rfl rfl) ?_)))))
 have hc3 := H.cell (u := (I Au.1)) (o' := 0) 0 0 rfl rfl rfl
 refine st (v := (I Au.1)) (rv_load1 Tryz.underlying3 rfl rfl hc3) (sm (I Bb) rfl ?_)
 revert h; refine br fun r4 hx5 h => ?_
 have hc6 := c_cmp_Compare_int hx5
 refine st_call (cx_call hc6 (ent_f hc6.fn rfl) hn0 (H.sel' [0, 1] rfl rfl : Hp S0 σ0 _ ([] ++ _))) wn ?_
 rintro _ σ7 ⟨_, ⟨rfl, rfl⟩, H, -⟩
 replace H : Hp _ _ _ [_, _] := H
 refine sa (I r4) rfl (w_end (q_then (c_ret ?_)))
 obtain rfl := sj h
 exact fin_ret (v := (I r4)) (results_ok Tryz.results84 (res_tmp (v := (I r4)) rfl res_nil) rfl) ⟨rfl, rfl⟩ (H.sel' [] rfl rfl)

theorem c_slices_BinarySearchFunc_impl_Item_impl_Item_int__impl_placeOf_1 {Au : List (Int × (List Int) × Int)} {Dg : Int} {Dh : Option Addr} {Di : Nat} {r : Int × Bool} (h : M.slices_BinarySearchFunc_impl_Item_impl_Item_int__impl_placeOf_1 Au Dg = some r) :
    Cal2 Tryz.prog 83 [(Sl Dh Au Di), (I Dg), (.func (.func 84) #[] #[])] [Ch.ro 0 (Sl Dh Au Di) Au] (fun n0 v L => v = (.tuple #[(I r.1), (B r.2)]) ∧ L = []) := by
 refine cal2 (n := 49) Tryz.func83 rfl rfl rfl rfl ?_
 intro S0 σ0 n0 hn0 H
 unfold M.slices_BinarySearchFunc_impl_Item_impl_Item_int__impl_placeOf_1 at h
 refine c_seq (rg (sa (I 0) rfl (sa (B false) rfl (w_end (q_then (c_seq (rg (sm (Sl Dh Au Di) rfl (st (v := (I (Au.length : Int))) (rv_len Tryz.underlying29 rfl) (sa (I (Au.length : Int)) rfl (w_end ?_)))))))))))
 refine q_then (c_seq (rg (sm (I (Au.length : Int)) rfl (sa (I 0) rfl (sa (I (Au.length : Int)) rfl (w_end (q_then (c_seq ?_))))))))
 obtain ⟨o1, hj, h'⟩ := bind_some h
 clear h
 refine c_cut (fun e a w => e = .normal ∧ ∃ (ρ : Nat → Value) (σ : St), a = fr 49 (updL ρ [(0, (Sl Dh Au Di)), (1, (I Dg)), (2, (.func (.func 84) #[] #[])), (8, (I (Au.length : Int))), (9, (I o1))]) ∧ w = σ.w ∧ Hp S0 σ0 σ [Ch.ro 0 (Sl Dh Au Di) Au]) ?_ ?_
 ·clear h'
  rename _ = some o1 => h
  refine c_blk (wp_loopM _ h (fun s2 a w => ∃ (ρ : Nat → Value) (σ : St), a = fr 49 (updL ρ [(0, (Sl Dh Au Di)), (1, (I Dg)), (2, (.func (.func 84) #[] #[])), (8, (I (Au.length : Int))), (9, (I s2.1)), (10, (I s2.2))]) ∧ w = σ.w ∧ Hp S0 σ0 σ [Ch.ro 0 (Sl Dh Au Di) Au]) ⟨_, σ0, fr_join ⟨rfl, rfl, rfl, rfl, rfl, rfl, trivial⟩, rfl, H.sel' [0] rfl rfl⟩ ?_)
  clear h H
  rintro s2 a w o ⟨ρ, σ3, rfl, rfl, H⟩ h hres
  refine c_seq (c_seq (rg (sm (I s2.1) rfl (sm (I s2.2) rfl (st (v := (B (decide (s2.1 < s2.2)))) (rv_lss (a := s2.1) (b := s2.2) rfl rfl) (w_end (q_then ?_)))))))
  refine cd_cond (decide (s2.1 < s2.2)) rfl (fun hb4 => ?_) (fun hb4 => ?_)
  ·replace h := bif_t hb4 h
   refine c_skip (q_then (c_blk (c_seq (rg (sm (I s2.1) rfl (sm (I s2.2) rfl (st (v := (I (w64 (s2.1 + s2.2)))) (rv_add (a := s2.1) (b := s2.2) rfl rfl) (st (v := (.int .u64 (wk .u64 (w64 (s2.1 + s2.2))))) (rvk_conv (k := .i64) (k' := .u64) (a := (w64 (s2.1 + s2.2))) Tryz.underlying3 Tryz.underlying118 rfl) ?_))))))))
   refine st (v := (.int .u64 (gshr .u64 (wk .u64 (w64 (s2.1 + s2.2))) 1))) (rvk_shr (k := .u64) (k' := .u64) (a := (wk .u64 (w64 (s2.1 + s2.2)))) (b := 1) rfl rfl (by decide)) ?_
   refine st (v := (I (wk .i64 (gshr .u64 (wk .u64 (w64 (s2.1 + s2.2))) 1)))) (rvk_conv (k := .u64) (k' := .i64) (a := (gshr .u64 (wk .u64 (w64 (s2.1 + s2.2))) 1)) Tryz.underlying118 Tryz.underlying3 rfl) (sa (I (wk .i64 (gshr .u64 (wk .u64 (w64 (s2.1 + s2.2))) 1))) rfl (w_end (q_then (c_seq (rg (sm (.func (.func 84) #[] #[]) rfl (sm (Sl Dh Au Di) rfl (sm (I (wk .i64 (gshr .u64 (wk .u64 (w64 (s2.1 + s2.2))) 1))) rfl ?_))))))))
   revert h; refine br fun x5 hx6 h => ?_
   obtain ⟨b8, o9, hi7, -⟩ := (H.ro 0 rfl).ix hx6
   refine st (v := (pt b8 o9)) (rv_ix Tryz.underlying29 ti67 rfl rfl hi7) ?_
   obtain ⟨_, ⟨_, _, rfl, rfl, ⟨_, _, rfl, ⟨_, rfl, hR14⟩, rfl⟩⟩, hl10, hc11⟩ := ((H.ro 0 rfl).at hx6 hi7).cells
   obtain ⟨a12, c13, rfl⟩ := hR14.isSl
   replace H := H.add (d := Ch.ro 0 (Sl a12 x5.2.1 c13) x5.2.1) hR14 (fun _ h => h)
   clear hR14
   refine st (v := (.agg #[(I x5.1), (Sl a12 x5.2.1 c13), (I x5.2.2)])) (rv_load Tryz.underlying67 rfl ti67 rfl hl10 hc11) (sm (I Dg) rfl ?_)
   revert h; refine br fun r15 hx16 h => ?_
   have hc17 := c_impl_placeOf_1 (Av := a12) (Aw := c13) hx16
   refine st_call (cx_call hc17 (ent_v (cap := []) hc17.fn rfl rfl) hn0 (H.sel' [0, 0, 1] rfl rfl : Hp S0 σ0 _ ([_] ++ _))) wn ?_
   rintro _ σ18 ⟨_, ⟨rfl, rfl⟩, H, -⟩
   replace H : Hp _ _ _ [_, _] := H
   refine st (v := (B (decide (r15 < 0)))) (rv_lss (a := r15) (b := 0) rfl rfl) (w_end (q_then ?_))
   refine cd_cond (decide (r15 < 0)) rfl (fun hb19 => ?_) (fun hb19 => ?_)
   ·replace h := bif_t hb19 h
    refine rg (sm (I (wk .i64 (gshr .u64 (wk .u64 (w64 (s2.1 + s2.2))) 1))) rfl (st (v := (I (w64 ((wk .i64 (gshr .u64 (wk .u64 (w64 (s2.1 + s2.2))) 1)) + 1)))) (rv_add (a := (wk .i64 (gshr .u64 (wk .u64 (w64 (s2.1 + s2.2))) 1))) (b := 1) rfl rfl) (sa (I (w64 ((wk .i64 (gshr .u64 (wk .u64 (w64 (s2.1 + s2.2))) 1)) + 1))) rfl (w_end (q_blk (q_then ?_))))))
    obtain rfl := sj h
    exact ⟨_, rfl, _, σ18, fr_join ⟨rfl, rfl, rfl, rfl, rfl, rfl, trivial⟩, rfl, H.sel' [1] rfl rfl⟩
   ·replace h := bif_f hb19 h
    refine rg (sm (I (wk .i64 (gshr .u64 (wk .u64 (w64 (s2.1 + s2.2))) 1))) rfl (sa (I (wk .i64 (gshr .u64 (wk .u64 (w64 (s2.1 + s2.2))) 1))) rfl (w_end (q_blk (q_then ?_)))))
    obtain rfl := sj h
    exact ⟨_, rfl, _, σ18, fr_join ⟨rfl, rfl, rfl, rfl, rfl, rfl, trivial⟩, rfl, H.sel' [1] rfl rfl⟩
  ·replace h := bif_f hb4 h
   refine c_exit (q_then_x (q_then_x (q_blk_hit ?_)))
   obtain rfl := sj h
   obtain rfl := hres _ rfl
   exact ⟨rfl, _, σ3, fr_join ⟨rfl, rfl, rfl, rfl, rfl, trivial⟩, rfl, H.sel' [0] rfl rfl⟩
 ·clear hj
  have h := h'
  clear h' H
  rintro e a w ⟨rfl, ρ, σ20, rfl, rfl, H⟩
  refine q_then (c_seq (rg (sm (I o1) rfl (sm (I o1) rfl (sm (I (Au.length : Int)) rfl (st (v := (B (decide (o1 < (Au.length : Int))))) (rv_lss (a := o1) (b := (Au.length : Int)) rfl rfl) (sm (B (decide (o1 < (Au.length : Int)))) rfl ?_)))))))
  rcases Bool.eq_false_or_eq_true (decide (o1 < (Au.length : Int))) with hb21 | hb21
  ·replace h := bif_t hb21 h
   refine st_g (v := (.func (.func 84) #[] #[])) (congrArg some hb21) (rv_move rfl) (st_g (v := (Sl Dh Au Di)) (congrArg some hb21) (rv_move rfl) (st_g (v := (I o1)) (congrArg some hb21) (rv_move rfl) ?_))
   revert h; refine br fun x22 hx23 h => ?_
   obtain ⟨b25, o26, hi24, -⟩ := (H.ro 0 rfl).ix hx23
   refine st_g (v := (pt b25 o26)) (congrArg some hb21) (rv_ix Tryz.underlying29 ti67 rfl rfl hi24) ?_
   obtain ⟨_, ⟨_, _, rfl, rfl, ⟨_, _, rfl, ⟨_, rfl, hR31⟩, rfl⟩⟩, hl27, hc28⟩ := ((H.ro 0 rfl).at hx23 hi24).cells
   obtain ⟨a29, c30, rfl⟩ := hR31.isSl
   replace H := H.add (d := Ch.ro 0 (Sl a29 x22.2.1 c30) x22.2.1) hR31 (fun _ h => h)
   clear hR31
   refine st_g (v := (.agg #[(I x22.1), (Sl a29 x22.2.1 c30), (I x22.2.2)])) (congrArg some hb21) (rv_load Tryz.underlying67 rfl ti67 rfl hl27 hc28) (st_g (v := (I Dg)) (congrArg some hb21) (rv_move rfl) ?_)
   revert h; refine br fun r32 hx33 h => ?_
   have hc34 := c_impl_placeOf_1 (Av := a29) (Aw := c30) hx33
   refine st_call (cx_call hc34 (ent_v (cap := []) hc34.fn rfl rfl) hn0 (H.sel' [0, 0, 1] rfl rfl : Hp S0 σ0 _ ([_] ++ _))) (wanted_yes rfl (by exact (congrArg some hb21))) ?_
   rintro _ σ35 ⟨_, ⟨rfl, rfl⟩, H, -⟩
   replace H : Hp _ _ _ [_, _] := H
   refine st_g (v := (B (r32 == 0))) (congrArg some hb21) (rv_eql (a := r32) (b := 0) rfl rfl) (st (v := (B (r32 == 0))) (rv_pick_t (congrArg B hb21) rfl) (sa (I o1) rfl (sa (B (r32 == 0)) rfl (w_end (q_then (c_ret ?_))))))
   obtain rfl := sj h
   exact fin_ret (v := (.tuple #[(I o1), (B (r32 == 0))])) (results_ok Tryz.results83 (res_tmp (v := (I o1)) rfl (res_tmp (v := (B (r32 == 0))) rfl res_nil)) rfl) ⟨rfl, rfl⟩ (H.sel' [] rfl rfl)
  ·replace h := bif_f hb21 h
   refine st_skip (congrArg some hb21) (st_skip (congrArg some hb21) (st_skip (congrArg some hb21) (st_skip (congrArg some hb21) (st_skip (congrArg some hb21) (st_skip (congrArg some hb21) (st_skip (congrArg some hb21) (st_skip (congrArg some hb21) (st (v := (B false)) (rv_pick_f (congrArg B hb21) rfl) (sa (I o1) rfl (sa (B false) rfl (w_end ?_)))))))))))
   refine q_then (c_ret ?_)
   obtain rfl := sj h
   exact fin_ret (v := (.tuple #[(I o1), (B false)])) (results_ok Tryz.results83 (res_tmp (v := (I o1)) rfl (res_tmp (v := (B false)) rfl res_nil)) rfl) ⟨rfl, rfl⟩ (H.sel' [] rfl rfl)

theorem c_impl_placeOf {Ak : List (Int × (List Int) × Int)} {Bb : Int} {Am : Option Addr} {Ao : Nat} {r : Int × Bool} (h : M.impl_placeOf Ak Bb = some r) :
    Cal2 Tryz.prog 64 [(Sl Am Ak Ao), (I Bb)] [Ch.ro 0 (Sl Am Ak Ao) Ak] (fun n0 v L => v = (.tuple #[(I r.1), (B r.2)]) ∧ L = []) := by
 refine cal2 (n := 11) Tryz.func64 rfl rfl rfl rfl ?_
 intro S0 σ0 n0 hn0 H
 unfold M.impl_placeOf at h
 refine c_seq (rg (sa (I 0) rfl (sa (B false) rfl (w_end (q_then (c_seq (rg (sm (Sl Am Ak Ao) rfl (sm (I Bb) rfl ?_)))))))))
 revert h; refine br fun r1 hx2 h => ?_
 have hc3 := c_slices_BinarySearchFunc_impl_Item_impl_Item_int__impl_placeOf_1 (Dh := Am) (Di := Ao) hx2
 refine st_call (cx_call hc3 (ent_f hc3.fn rfl) hn0 (H.sel' [0, 0] rfl rfl : Hp S0 σ0 _ ([_] ++ _))) wn ?_
 rintro _ σ4 ⟨_, ⟨rfl, rfl⟩, H, -⟩
 replace H : Hp _ _ _ [_] := H
 refine st (v := (I r1.1)) (rv_extract rfl rfl) (st (v := (B r1.2)) (rv_extract rfl rfl) (sa (I r1.1) rfl (sa (B r1.2) rfl (w_end (q_then (c_ret ?_))))))
 obtain rfl := sj h
 exact fin_ret (v := (.tuple #[(I r1.1), (B r1.2)])) (results_ok Tryz.results64 (res_tmp (v := (I r1.1)) rfl (res_tmp (v := (B r1.2)) rfl res_nil)) rfl) ⟨rfl, rfl⟩ (H.sel' [] rfl rfl)

theorem c_slices_Clone_int_int {Af : List Int} {Dj : Option Addr} {Dk : Nat} {r : (List Int)} (h : M.slices_Clone_int_int Af = some r) :
    Cal2 Tryz.prog 86 [(Sl Dj Af Dk)] [Ch.ro 0 (Sl Dj Af Dk) Af] (fun n0 v L => ∃ (az1 : Option Addr), ∃ (cz2 : Nat), v = (Sl az1 r cz2) ∧ L = [Ch.own n0 n0 (Sl az1 r cz2) r]) := by
 refine cal2 (n := 8) Tryz.func86 rfl rfl rfl rfl ?_
 intro S0 σ0 n0 hn0 H
 unfold M.slices_Clone_int_int at h
 refine c_seq (rg (sa (.slice none 0 0) rfl (w_end (q_then (c_seq (c_seq (rg (sm (Sl Dj Af Dk) rfl (st (v := (B Dj.isNone)) (rv_nilS Tryz.underlying51 rfl rfl) (w_end (q_then ?_)))))))))))
 refine cd_cond Dj.isNone rfl (fun hb1 => ?_) (fun hb1 => ?_)
 ·have hq := RS.nilOf hb1 (H.ro 0 rfl)
  subst hq
  replace h : some [] = some r := by simpa [gapp] using h
  refine c_seq (rg (sa (.slice none 0 0) rfl (w_end (q_then (c_ret (q_then_r ?_))))))
  replace H := H.nilOwn Int n0 n0
  obtain rfl := sj h
  exact fin_ret (v := (.slice none 0 0)) (results_ok Tryz.results86 (res_tmp (v := (.slice none 0 0)) rfl res_nil) rfl) ⟨none, 0, rfl, rfl⟩ (H.sel' [0] rfl rfl)
 ·refine c_skip ?_
  refine q_then (c_seq (rg ?_))
  refine st_ex (ex_buildSlice (el := n0) (xs := ([] : List Int)) (ps := []) (cs := []) H hn0 Tryz.underlying51 ti3 rfl rfl (by kernel_rfl) (.nil) rfl) wn ?_
  rintro _ σ3 ⟨b2, rfl, H, -⟩
  refine sm (Sl Dj Af Dk) rfl ?_
  revert h; refine br fun xs4 hx5 h => ?_
  refine st_ex (ex_append H (i := 0) rfl Tryz.underlying51 Tryz.underlying51 ti3 rfl rfl (by decide) ((H.ro 1 rfl).rd.sc) hx5 hn0 rfl rfl) wn ?_
  rintro _ σ8 ⟨a6, c7, rfl, H, -⟩
  refine sa (Sl a6 xs4 c7) rfl (w_end (q_then (c_ret ?_)))
  obtain rfl := sj h
  exact fin_ret (v := (Sl a6 xs4 c7)) (results_ok Tryz.results86 (res_tmp (v := (Sl a6 xs4 c7)) rfl res_nil) rfl) ⟨a6, c7, rfl, rfl⟩ (H.sel' [0] rfl rfl)

theorem c_impl_copyItem {Au : Int × (List Int) × Int} {Av : Option Addr} {Aw : Nat} {r : (Int × (List Int) × Int)} (h : M.impl_copyItem Au = some r) :
    Cal2 Tryz.prog 66 [(.agg #[(I Au.1), (Sl Av Au.2.1 Aw), (I Au.2.2)])] [Ch.ro 0 (Sl Av Au.2.1 Aw) Au.2.1] (fun n0 v L => ∃ (az1 : Option Addr), ∃ (cz2 : Nat), v = (.agg #[(I r.1), (Sl az1 r.2.1 cz2), (I r.2.2)]) ∧ L = [Ch.own n0 n0 (Sl az1 r.2.1 cz2) r.2.1]) := by
 refine cal2 (n := 11) Tryz.func66 rfl rfl rfl rfl ?_
 intro S0 σ0 n0 hn0 H
 unfold M.impl_copyItem at h
 refine c_seq (rg (st_ex (ex_box (cs := [(I Au.1), (Sl Av Au.2.1 Aw), (I Au.2.2)]) H hn0 rfl rfl) wn ?_))
 rintro _ σ2 ⟨b1, rfl, H, -⟩
 refine st_ex (ex_alloc (cs := [(I 0), (.slice none 0 0), (I 0)]) H hn0 ti67 rfl) wn ?_
 rintro _ σ4 ⟨b3, rfl, H, -⟩
 refine w_end (q_then (c_seq ?_))
 have hc5 := H.cell (u := (I Au.1)) (o' := 0) 1 0 rfl rfl rfl
 have hc6 := H.cell (u := (Sl Av Au.2.1 Aw)) (o' := 1) 1 1 rfl rfl rfl
 revert h; refine br fun r7 hx8 h => ?_
 have hc9 := c_slices_Clone_int_int (Dj := Av) (Dk := Aw) hx8
 have hc12 := H.cell (u := (I Au.2.2)) (o' := 2) 1 2 rfl rfl rfl
 have Hs := H
 refine rg2 (σ := σ4) (Nm := (Option Addr) × (Nat)) 7 [4] [[false], [true]] [[(0, 0), (1, 1)], [(0, 0), (1, 1)], [(0, 0)], [(0, 0)], [(0, 1)], [(0, 0), (1, 1)], [(0, 0), (1, 1)]] 1 [fun ((a10, c11) : (Option Addr) × (Nat)) => fun σm => Hp S0 σ0 σm [Ch.bx n0 b3 0 [(I 0), (.slice none 0 0), (I 0)] [] [], Ch.bx n0 b1 0 [(I Au.1), (Sl Av Au.2.1 Aw), (I Au.2.2)] [] [], Ch.ro 0 (Sl Av Au.2.1 Aw) Au.2.1] ∧ Md (cov []) σ4 σm, fun ((a10, c11) : (Option Addr) × (Nat)) => fun σm => Hp S0 σ0 σm [Ch.own n0 n0 (Sl a10 r7 c11) r7, Ch.bx n0 b3 0 [(I 0), (.slice none 0 0), (I 0)] [] [], Ch.bx n0 b1 0 [(I Au.1), (Sl Av Au.2.1 Aw), (I Au.2.2)] [] [], Ch.ro 0 (Sl Av Au.2.1 Aw) Au.2.1] ∧ Md (cov []) σ4 σm] [fun ((a10, c11) : (Option Addr) × (Nat)) => (pt b1 0), fun ((a10, c11) : (Option Addr) × (Nat)) => (I Au.1), fun ((a10, c11) : (Option Addr) × (Nat)) => (pt b1 1), fun ((a10, c11) : (Option Addr) × (Nat)) => (Sl Av Au.2.1 Aw), fun ((a10, c11) : (Option Addr) × (Nat)) => (Sl a10 r7 c11), fun ((a10, c11) : (Option Addr) × (Nat)) => (pt b1 2), fun ((a10, c11) : (Option Addr) × (Nat)) => (I Au.2.2)] (none, 0) (by kernel_rfl) (by kernel_rfl) ?_ ?_ ?_
 ·intro σm m0
  exact ⟨H.grow (m0.mono fun _ h => h.elim), m0⟩
 ·refine ac rfl (by
    intro k; rintro ⟨a10, c11⟩ ρ σm hJ hoff hdep
    have e1 := look_off (N := 11) (hoff 1 rfl) rfl
    exact dp_v (v := (pt b1 0)) wn (rv_fieldAddr (off := 0) (ft := 3) Tryz.underlying67 rfl ti3 rfl e1) rfl hJ) ?_
  refine all_cons (by
    refine ⟨?_, ?_⟩
    ·rintro ⟨a10, c11⟩ ρ σm hJ hoff hdep
     have e3 := hdep 0 rfl rfl 3 rfl
     obtain ⟨H, m⟩ := id hJ
     have hc5 := H.cell (u := (I Au.1)) (o' := 0) 1 0 rfl rfl rfl
     exact dp_v (v := (I Au.1)) wn (rv_load1 Tryz.underlying3 rfl e3 hc5) rfl hJ
    refine ⟨?_, ?_⟩
    ·rintro ⟨a10, c11⟩ ρ σm hJ hoff hdep
     have e3 := hdep 0 rfl rfl 3 rfl
     obtain ⟨H, m⟩ := id hJ
     have hc5 := H.cell (u := (I Au.1)) (o' := 0) 2 0 rfl rfl rfl
     exact dp_v (v := (I Au.1)) wn (rv_load1 Tryz.underlying3 rfl e3 hc5) rfl hJ
    trivial) ?_
  refine ac rfl (by
    intro k; rintro ⟨a10, c11⟩ ρ σm hJ hoff hdep
    have e1 := look_off (N := 11) (hoff 1 rfl) rfl
    exact dp_v (v := (pt b1 1)) wn (rv_fieldAddr (off := 1) (ft := 51) Tryz.underlying67 rfl ti51 rfl e1) rfl hJ) ?_
  refine all_cons (by
    refine ⟨?_, ?_⟩
    ·rintro ⟨a10, c11⟩ ρ σm hJ hoff hdep
     have e5 := hdep 2 rfl rfl 5 rfl
     obtain ⟨H, m⟩ := id hJ
     have hc6 := H.cell (u := (Sl Av Au.2.1 Aw)) (o' := 1) 1 1 rfl rfl rfl
     exact dp_v (v := (Sl Av Au.2.1 Aw)) wn (rv_load1 Tryz.underlying51 rfl e5 hc6) rfl hJ
    trivial) ?_
  refine all_cons (by
    refine ⟨?_, ?_⟩
    ·rintro ⟨a10, c11⟩ ρ σm hJ hoff hdep
     have e6 : look 11 ρ 6 = (Sl Av Au.2.1 Aw) := hdep 3 rfl rfl 6 rfl
     obtain ⟨H, m⟩ := id hJ
     refine dp_cx wn (cx_call hc9 (ent_f hc9.fn (by show [look 11 ρ 6] = _; rw [e6])) hn0 (H.sel' [2, 0, 1, 2] rfl rfl : Hp S0 σ0 _ ([_] ++ _))) ?_
     rintro _ σq ⟨_, ⟨a10x, c11x, rfl, rfl⟩, H2, m2⟩
     exact ⟨_, (a10x, c11x), rfl, rfl, ⟨H2.sel' [0, 1, 2, 3] rfl rfl, m.comp0 (m2.mono (fun i h => by simp [cov, Ch.ro] at h))⟩, stab [0, 1, 2, 3, 5, 6] (by kernel_rfl) ⟨rfl, rfl, rfl, rfl, rfl, rfl, trivial⟩⟩
    trivial) ?_
  refine ac rfl (by
    intro k; rintro ⟨a10, c11⟩ ρ σm hJ hoff hdep
    have e1 := look_off (N := 11) (hoff 1 rfl) rfl
    exact dp_v (v := (pt b1 2)) wn (rv_fieldAddr (off := 2) (ft := 3) Tryz.underlying67 rfl ti3 rfl e1) rfl hJ) ?_
  refine all_cons (by
    refine ⟨?_, ?_⟩
    ·rintro ⟨a10, c11⟩ ρ σm hJ hoff hdep
     have e8 := hdep 5 rfl rfl 8 rfl
     obtain ⟨H, m⟩ := id hJ
     have hc12 := H.cell (u := (I Au.2.2)) (o' := 2) 1 2 rfl rfl rfl
     exact dp_v (v := (I Au.2.2)) wn (rv_load1 Tryz.underlying3 rfl e8 hc12) rfl hJ
    refine ⟨?_, ?_⟩
    ·rintro ⟨a10, c11⟩ ρ σm hJ hoff hdep
     have e8 := hdep 5 rfl rfl 8 rfl
     obtain ⟨H, m⟩ := id hJ
     have hc12 := H.cell (u := (I Au.2.2)) (o' := 2) 2 2 rfl rfl rfl
     exact dp_v (v := (I Au.2.2)) wn (rv_load1 Tryz.underlying3 rfl e8 hc12) rfl hJ
    trivial) ?_
  exact all_nil
 ·rintro ⟨a10, c11⟩ ρ σ13 hJ hoff hrel
  have e2 := look_off (N := 11) (hoff 2 rfl) rfl
  have e4 := hrel 1 rfl 4 rfl
  have e7 := hrel 4 rfl 7 rfl
  have e9 := hrel 6 rfl 9 rfl
  obtain ⟨H, -⟩ := (show Hp S0 σ0 σ13 [Ch.own n0 n0 (Sl a10 r7 c11) r7, Ch.bx n0 b3 0 [(I 0), (.slice none 0 0), (I 0)] [] [], Ch.bx n0 b1 0 [(I Au.1), (Sl Av Au.2.1 Aw), (I Au.2.2)] [] [], Ch.ro 0 (Sl Av Au.2.1 Aw) Au.2.1] ∧ Md (cov []) σ4 σ13 from hJ)
  clear hJ Hs
  rw [fr_lookL (L := [(2, (pt b3 0)), (4, (I Au.1)), (7, (Sl a10 r7 c11)), (9, (I Au.2.2))]) ⟨e2, e4, e7, e9, trivial⟩]
  clear hoff hrel e2 e4 e7 e9
  refine st (v := (.agg #[(I Au.1), (Sl a10 r7 c11), (I Au.2.2)])) (rv_build (ps := [(0, (I Au.1)), (1, (Sl a10 r7 c11)), (2, (I Au.2.2))]) Tryz.underlying67 ti67 (bp67 Tryz.underlying67) rfl (by kernel_rfl)) ?_
  refine st_exS (ex_store_box (k := 0) (cs := [(I 0), (.slice none 0 0), (I 0)]) (vs := [(I Au.1), (Sl a10 r7 c11), (I Au.2.2)]) (cs' := [(I Au.1), (Sl a10 r7 c11), (I Au.2.2)]) H (i := 1) rfl ti67 rfl rfl rfl rfl rfl (Nat.le_of_ble_eq_true rfl) (by simp [plain]) rfl) wn ?_
  rintro σ14 ⟨H, -⟩
  refine w_end (q_then (c_ret ?_))
  obtain rfl := sj h
  exact fin_ret (v := (.agg #[(I Au.1), (Sl a10 r7 c11), (I Au.2.2)])) (results_ok Tryz.results66 (res_cell rfl (run_cellRes (cs := [(I Au.1), (Sl a10 r7 c11), (I Au.2.2)]) Tryz.underlying67 rfl ti67 rfl (H.cells 0 rfl)) res_nil) rfl) ⟨a10, c11, rfl, rfl⟩ (H.sel' [1] rfl rfl)

theorem c_impl_copyItems {Ak : List (Int × (List Int) × Int)} {Am : Option Addr} {Ao : Nat} {r : (List (Int × (List Int) × Int))} (h : M.impl_copyItems Ak = some r) :
    Cal2 Tryz.prog 65 [(Sl Am Ak Ao)] [Ch.ro 0 (Sl Am Ak Ao) Ak] (fun n0 v L => ∃ (az1 : Option Addr), ∃ (cz2 : Nat), v = (Sl az1 r cz2) ∧ L = [Ch.own n0 n0 (Sl az1 r cz2) r] ∧ cz2 = r.length) := by
 refine cal2 (n := 23) Tryz.func65 rfl rfl rfl rfl ?_
 intro S0 σ0 n0 hn0 H
 unfold M.impl_copyItems at h
 refine c_seq (rg (sa (.slice none 0 0) rfl (w_end (q_then (c_seq (rg (sm (Sl Am Ak Ao) rfl (st (v := (I (Ak.length : Int))) (rv_len Tryz.underlying29 rfl) ?_))))))))
 revert h; refine br fun xs1 hx2 h => ?_
 refine st_ex (ex_make (el := n0) (z0 := ((0, [], 0) : Int × (List Int) × Int)) (zs := [(I 0), (.slice none 0 0), (I 0)]) H hn0 Tryz.underlying29 ti67 rfl rfl (⟨[(I 0)], [(.slice none 0 0), (I 0)], rfl, rfl, ⟨[(.slice none 0 0)], [(I 0)], rfl, ⟨_, rfl, RS.nil⟩, rfl⟩⟩) (by decide) hx2 rfl rfl) wn ?_
 rintro _ σ6 ⟨b3, c4, rfl, ht5, H, -⟩
 replace ht5 := ht5.trans (gmake_len hx2).symm
 refine sa (Sl (some ⟨b3, 0, none⟩) xs1 c4) rfl (w_end (q_then (c_seq (c_seq (rg (sm (Sl Am Ak Ao) rfl (st (v := (I (Ak.length : Int))) (rv_len Tryz.underlying29 rfl) (sm (I 0) rfl (w_end (q_then ?_))))))))))
 obtain ⟨o7, hj, h'⟩ := bind_some h
 clear h
 refine c_cut (fun e a w => e = .normal ∧ ∃ (ρ : Nat → Value) (σ : St), a = fr 23 (updL ρ [(3, (Sl (some ⟨b3, 0, none⟩) o7 c4))]) ∧ w = σ.w ∧ Hp S0 σ0 σ [Ch.own n0 n0 (Sl (some ⟨b3, 0, none⟩) o7 c4) o7] ∧ c4 = o7.length ∧ o7.length = xs1.length) ?_ ?_
 ·clear h'
  rename _ = some o7 => h
  refine c_blk (wp_loopM _ h (fun s8 a w => ∃ (ρ : Nat → Value) (σ : St), a = fr 23 (updL ρ [(3, (Sl (some ⟨b3, 0, none⟩) s8.1 c4)), (9, (Sl Am Ak Ao)), (10, (I (Ak.length : Int))), (11, (I s8.2))]) ∧ w = σ.w ∧ Hp S0 σ0 σ [Ch.own n0 n0 (Sl (some ⟨b3, 0, none⟩) s8.1 c4) s8.1, Ch.ro 0 (Sl Am Ak Ao) Ak] ∧ c4 = s8.1.length ∧ s8.1.length = xs1.length) ⟨_, σ6, fr_join ⟨rfl, rfl, rfl, rfl, trivial⟩, rfl, H.sel' [0, 1] rfl rfl, ht5, rfl⟩ ?_)
  clear h H
  rintro s8 a w o ⟨ρ, σ9, rfl, rfl, H, ht10, hn11⟩ h hres
  refine c_seq (rg (st (v := (B (decide (s8.2 < (Ak.length : Int))))) (rv_lss (a := s8.2) (b := (Ak.length : Int)) rfl rfl) (w_end (q_then (c_seq ?_)))))
  refine cd_cond (decide (s8.2 < (Ak.length : Int))) rfl (fun hb12 => ?_) (fun hb12 => ?_)
  ·replace h := bif_t hb12 h
   refine c_skip (q_then (c_seq (c_blk (c_seq (rg (sm (I s8.2) rfl ?_))))))
   revert h; refine br fun x13 hx14 h => ?_
   obtain ⟨b16, o17, hi15, -⟩ := (H.ro 1 rfl).ix hx14
   refine st (v := (pt b16 o17)) (rv_ix Tryz.underlying29 ti67 rfl rfl hi15) ?_
   obtain ⟨_, ⟨_, _, rfl, rfl, ⟨_, _, rfl, ⟨_, rfl, hR22⟩, rfl⟩⟩, hl18, hc19⟩ := ((H.ro 1 rfl).at hx14 hi15).cells
   obtain ⟨a20, c21, rfl⟩ := hR22.isSl
   replace H := H.add (d := Ch.ro 0 (Sl a20 x13.2.1 c21) x13.2.1) hR22 (fun _ h => h)
   clear hR22
   refine st (v := (.agg #[(I x13.1), (Sl a20 x13.2.1 c21), (I x13.2.2)])) (rv_load Tryz.underlying67 rfl ti67 rfl hl18 hc19) (st_ex (ex_alloc (cs := [(I 0), (.slice none 0 0), (I 0)]) H hn0 ti67 rfl) wn ?_)
   rintro _ σ24 ⟨b23, rfl, H, -⟩
   refine sa (I s8.2) rfl ?_
   refine st_exS (ex_store_box (k := 0) (cs := [(I 0), (.slice none 0 0), (I 0)]) (vs := [(I x13.1), (Sl a20 x13.2.1 c21), (I x13.2.2)]) (cs' := [(I x13.1), (Sl a20 x13.2.1 c21), (I x13.2.2)]) H (i := 0) rfl ti67 rfl rfl rfl rfl rfl (Nat.le_of_ble_eq_true rfl) (by simp [plain]) rfl) wn ?_
   rintro σ25 ⟨H, -⟩
   refine w_end (q_then (rg (sm (Sl (some ⟨b3, 0, none⟩) s8.1 c4) rfl (sm (I s8.2) rfl ?_))))
   have hc26 := H.cells 0 rfl
   refine st (v := (.agg #[(I x13.1), (Sl a20 x13.2.1 c21), (I x13.2.2)])) (rv_load (cs := [(I x13.1), (Sl a20 x13.2.1 c21), (I x13.2.2)]) Tryz.underlying67 rfl ti67 rfl rfl hc26) ?_
   revert h; refine br fun r27 hx28 h => ?_
   have hc29 := c_impl_copyItem (Av := a20) (Aw := c21) hx28
   refine st_call (cx_call hc29 (ent_f hc29.fn rfl) hn0 (H.sel' [1, 0, 1, 2, 3] rfl rfl : Hp S0 σ0 _ ([_] ++ _))) wn ?_
   rintro _ σ32 ⟨_, ⟨a30, c31, rfl, rfl⟩, H, -⟩
   replace H : Hp _ _ _ [_, _, _, _, _] := H
   revert h; refine br fun x33 hx34 h => ?_
   obtain ⟨b36, o37, hi35, -⟩ := (H.own 3 rfl).ix hx34
   refine st (v := (pt b36 o37)) (rv_ix Tryz.underlying29 ti67 rfl rfl hi35) ?_
   obtain ⟨σ38, hw39, H, -⟩ := H.pub 0 rfl (Nat.le_refl _)
   rw [← hw39]; clear hw39
   refine st_exS (ex_store_own (e' := (r27.1, r27.2.1, r27.2.2)) (vs := [(I r27.1), (Sl a30 r27.2.1 c31), (I r27.2.2)]) (k := 0) H (i := 3) rfl ti67 hx34 hi35 rfl rfl rfl rfl rfl (Nat.le_of_ble_eq_true rfl) (by simp [plain]) (by rintro _ ⟨_, _, rfl, rfl, ⟨_, _, rfl, ⟨_, rfl, hR42⟩, rfl⟩⟩; exact ⟨[(I r27.1)], [(Sl a30 r27.2.1 c31), (I r27.2.2)], rfl, rfl, ⟨[(Sl a30 r27.2.1 c31)], [(I r27.2.2)], rfl, ⟨_, rfl, (H.ro 0 rfl)⟩, rfl⟩⟩)) wn ?_
   rintro σ43 ⟨H, -⟩
   have hsl : (Sl (some ⟨b3, 0, none⟩) s8.1 c4) = (Sl (some ⟨b3, 0, none⟩) (s8.1.set s8.2.toNat (r27.1, r27.2.1, r27.2.2)) c4) := sl_len List.length_set.symm
   rw [hsl]; rw [hsl] at H; clear hsl
   refine w_end (q_blk (q_then (rg (st (v := (I (w64 (s8.2 + 1)))) (rv_add (a := s8.2) (b := 1) rfl rfl) (sm (I (w64 (s8.2 + 1))) rfl (w_end (q_then ?_)))))))
   obtain rfl := sj h
   exact ⟨_, rfl, _, σ43, fr_join ⟨rfl, rfl, rfl, rfl, trivial⟩, rfl, H.sel' [0, 4] rfl rfl, (ht10.trans List.length_set.symm), (List.length_set.trans hn11)⟩
  ·replace h := bif_f hb12 h
   refine c_exit (q_then_x (q_then_x (q_blk_hit ?_)))
   obtain rfl := sj h
   obtain rfl := hres _ rfl
   exact ⟨rfl, _, σ9, fr_join ⟨rfl, trivial⟩, rfl, H.sel' [0] rfl rfl, ht10, hn11⟩
 ·clear hj
  have h := h'
  clear h' H
  rintro e a w ⟨rfl, ρ, σ44, rfl, rfl, H, ht45, hn46⟩
  refine q_then (c_seq (rg (sm (Sl (some ⟨b3, 0, none⟩) o7 c4) rfl (sa (Sl (some ⟨b3, 0, none⟩) o7 c4) rfl (w_end (q_then (c_ret ?_)))))))
  obtain rfl := sj h
  exact fin_ret (v := (Sl (some ⟨b3, 0, none⟩) o7 c4)) (results_ok Tryz.results65 (res_tmp (v := (Sl (some ⟨b3, 0, none⟩) o7 c4)) rfl res_nil) rfl) ⟨(some ⟨b3, 0, none⟩), c4, rfl, rfl, ht45⟩ (H.sel' [0] rfl rfl)

theorem c_slices_Insert_impl_Item_impl_Item {Af : List (Int × (List Int) × Int)} {Dm : Int} {Dn : List (Int × (List Int) × Int)} {Dj : Option Addr} {Dk : Nat} (Do : Dk = Af.length) {Dq : Option Addr} {Dr : Nat} {r : (List (Int × (List Int) × Int))} (h : M.slices_Insert_impl_Item_impl_Item Af Dm Dn = some r) :
    Cal2 Tryz.prog 67 [(Sl Dj Af Dk), (I Dm), (Sl Dq Dn Dr)] [Ch.own 0 0 (Sl Dj Af Dk) Af, Ch.ro 0 (Sl Dq Dn Dr) Dn] (fun n0 v L => ∃ (az1 : Option Addr), ∃ (cz2 : Nat), v = (Sl az1 r cz2) ∧ L = [Ch.own 0 0 (Sl az1 r cz2) r]) := by
 refine cal2 (n := 95) Tryz.func67 rfl rfl rfl rfl ?_
 intro S0 σ0 n0 hn0 H
 unfold M.slices_Insert_impl_Item_impl_Item at h
 refine c_seq (rg (sa (.slice none 0 0) rfl (w_end (q_then (c_seq (rg (sm (Sl Dj Af Dk) rfl (sm (I Dm) rfl ?_))))))))
 revert h; refine br fun xs1 hx2 h => ?_
 obtain ⟨a3, c4, hs5, -⟩ := (H.own 0 rfl).slice hx2
 refine st (v := (Sl a3 xs1 c4)) (rv_slice_l Tryz.underlying29 ti67 hs5 rfl rfl) (w_end (q_then (c_seq (rg (sm (Sl Dq Dn Dr) rfl (st (v := (I (Dn.length : Int))) (rv_len Tryz.underlying29 rfl) (sa (I (Dn.length : Int)) rfl (w_end (q_then (c_seq (c_seq ?_)))))))))))
 refine rg (sm (I (Dn.length : Int)) rfl (st (v := (B ((Dn.length : Int) == 0))) (rv_eql (a := (Dn.length : Int)) (b := 0) rfl rfl) (w_end (q_then ?_))))
 refine cd_cond ((Dn.length : Int) == 0) rfl (fun hb7 => ?_) (fun hb7 => ?_)
 ·replace h := bif_t hb7 h
  refine c_seq (rg (sm (Sl Dj Af Dk) rfl (sa (Sl Dj Af Dk) rfl (w_end (q_then (c_ret (q_then_r ?_)))))))
  obtain rfl := sj h
  exact fin_ret (v := (Sl Dj Af Dk)) (results_ok Tryz.results67 (res_tmp (v := (Sl Dj Af Dk)) rfl res_nil) rfl) ⟨Dj, Dk, rfl, rfl⟩ (H.sel' [0] rfl rfl)
 ·replace h := bif_f hb7 h
  refine c_skip (q_then (c_seq (rg (sm (Sl Dj Af Dk) rfl (st (v := (I (Af.length : Int))) (rv_len Tryz.underlying29 rfl) (sa (I (Af.length : Int)) rfl (w_end (q_then (c_seq (c_seq (rg ?_)))))))))))
  refine sm (I Dm) rfl (sm (I (Af.length : Int)) rfl (st (v := (B (Dm == (Af.length : Int)))) (rv_eql (a := Dm) (b := (Af.length : Int)) rfl rfl) (w_end (q_then ?_))))
  refine cd_cond (Dm == (Af.length : Int)) rfl (fun hb8 => ?_) (fun hb8 => ?_)
  ·replace h := bif_t hb8 h
   refine c_seq (rg (sm (Sl Dj Af Dk) rfl (sm (Sl Dq Dn Dr) rfl ?_)))
   revert h; refine br fun xs9 hx10 h => ?_
   refine st_ex (ex_append H (i := 0) rfl Tryz.underlying29 Tryz.underlying29 ti67 rfl rfl (by decide) (H.ro 1 rfl).rd hx10 (Nat.zero_le _) rfl rfl) wn ?_
   rintro _ σ13 ⟨a11, c12, rfl, H, -⟩
   refine sa (Sl a11 xs9 c12) rfl (w_end (q_then (c_ret (q_then_r ?_))))
   obtain rfl := sj h
   exact fin_ret (v := (Sl a11 xs9 c12)) (results_ok Tryz.results67 (res_tmp (v := (Sl a11 xs9 c12)) rfl res_nil) rfl) ⟨a11, c12, rfl, rfl⟩ (H.sel' [0] rfl rfl)
  ·replace h := bif_f hb8 h
   refine c_skip (q_then (c_seq (c_seq (rg (sm (I (Af.length : Int)) rfl (sm (I (Dn.length : Int)) rfl (st (v := (I (w64 ((Af.length : Int) + (Dn.length : Int))))) (rv_add (a := (Af.length : Int)) (b := (Dn.length : Int)) rfl rfl) (sm (Sl Dj Af Dk) rfl (st (v := (I (Af.length : Int))) (rv_cap Tryz.underlying29 rfl Do) (st (v := (B (decide ((Af.length : Int) < (w64 ((Af.length : Int) + (Dn.length : Int))))))) (rv_gtr (a := (w64 ((Af.length : Int) + (Dn.length : Int)))) (b := (Af.length : Int)) rfl rfl) (w_end ?_)))))))))))
   refine q_then ?_
   refine cd_cond (decide ((Af.length : Int) < (w64 ((Af.length : Int) + (Dn.length : Int))))) rfl (fun hb14 => ?_) (fun hb14 => ?_)
   ·replace h := bif_t hb14 h
    refine c_seq (rg (sm (Sl Dj Af Dk) rfl (sm (I Dm) rfl ?_)))
    revert h; refine br fun xs15 hx16 h => ?_
    obtain ⟨a17, c18, hs19, -⟩ := (H.own 0 rfl).slice hx16
    refine st (v := (Sl a17 xs15 c18)) (rv_slice_h Tryz.underlying29 ti67 hs19 rfl rfl) (sm (I (Af.length : Int)) rfl (sm (I (Dn.length : Int)) rfl (st (v := (I (w64 ((Af.length : Int) + (Dn.length : Int))))) (rv_add (a := (Af.length : Int)) (b := (Dn.length : Int)) rfl rfl) (sm (I Dm) rfl (st (v := (I (w64 ((w64 ((Af.length : Int) + (Dn.length : Int))) - Dm)))) (rv_sub (a := (w64 ((Af.length : Int) + (Dn.length : Int)))) (b := Dm) rfl rfl) ?_)))))
    revert h; refine br fun xs21 hx22 h => ?_
    refine st_ex (ex_appZ (z0 := ((0, [], 0) : Int × (List Int) × Int)) (zs := [(I 0), (.slice none 0 0), (I 0)]) H (i := 0) rfl Tryz.underlying29 Tryz.underlying3 ti67 rfl rfl (⟨[(I 0)], [(.slice none 0 0), (I 0)], rfl, rfl, ⟨[(.slice none 0 0)], [(I 0)], rfl, ⟨_, rfl, RS.nil⟩, rfl⟩⟩) (by decide) Do hx16 hs19 hx22 (app_new (by have := gslice_some hx16; omega) (gslice_some hx16).2.2.1 hb14) hn0 rfl rfl) wn ?_
    rintro _ σ25 ⟨b23, c24, rfl, H, -⟩
    refine sa (Sl (some ⟨b23, 0, none⟩) xs21 c24) rfl (w_end (q_then (c_seq (rg (sm (Sl (some ⟨b23, 0, none⟩) xs21 c24) rfl (sm (I Dm) rfl ?_))))))
    revert h; refine br fun xs26 hx27 h => ?_
    obtain ⟨a28, c29, hs30, -⟩ := (H.own 0 rfl).slice hx27
    refine st (v := (Sl a28 xs26 c29)) (rv_slice_l Tryz.underlying29 ti67 hs30 rfl rfl) (sm (Sl Dq Dn Dr) rfl (st_ex (ex_copyV H (i := 0) rfl Tryz.underlying29 ti67 rfl hx27 hs30 (H.ro 2 rfl).rd rfl rfl) wn ?_))
    rintro _ σ32 ⟨rfl, H, -⟩
    have hsl : (Sl (some ⟨b23, 0, none⟩) xs21 c24) = (Sl (some ⟨b23, 0, none⟩) (gcopyAt xs21 (Dm).toNat xs26.length Dn) c24) := sl_len (gcopyAt_len (by have := gslice_some hx27; omega)).symm
    rw [hsl]; rw [hsl] at H; clear hsl
    refine w_end (q_then (c_seq ?_))
    refine rgP (σ := σ32) 8 (by kernel_rfl) (by kernel_rfl) (by kernel_rfl) ?_
    refine sq (v := (Sl (some ⟨b23, 0, none⟩) (gcopyAt xs21 (Dm).toNat xs26.length Dn) c24)) (rv_move rfl) (sq (v := (I Dm)) (rv_move rfl) (sq (v := (I (Dn.length : Int))) (rv_move rfl) (sq (v := (I (w64 (Dm + (Dn.length : Int))))) (rv_add (a := Dm) (b := (Dn.length : Int)) rfl rfl) ?_)))
    revert h; refine br fun xs33 hx34 h => ?_
    obtain ⟨a35, c36, hs37, -⟩ := (H.own 0 rfl).slice hx34
    refine sq (v := (Sl a35 xs33 c36)) (rv_slice_l Tryz.underlying29 ti67 hs37 rfl rfl) (sq (v := (Sl Dj Af Dk)) (rv_move rfl) (sq (v := (I Dm)) (rv_move rfl) ?_))
    revert h; refine br fun xs39 hx40 h => ?_
    obtain ⟨a41, c42, hs43, -⟩ := (H.own 1 rfl).slice hx40
    refine sq (v := (Sl a41 xs39 c42)) (rv_slice_l Tryz.underlying29 ti67 hs43 rfl rfl) (sq_end ?_)
    intro σ45 hm46
    replace H := H.grow (hm46.mono fun _ h => h); clear hm46
    refine st_ex (ex_copyV H (i := 0) rfl Tryz.underlying29 ti67 rfl hx34 hs37 ((H.own 1 rfl).view hx40 hs43).1.rd rfl rfl) wn ?_
    rintro _ σ47 ⟨rfl, H, -⟩
    have hsl : (Sl (some ⟨b23, 0, none⟩) (gcopyAt xs21 (Dm).toNat xs26.length Dn) c24) = (Sl (some ⟨b23, 0, none⟩) (gcopyAt (gcopyAt xs21 (Dm).toNat xs26.length Dn) (w64 (Dm + (Dn.length : Int))).toNat xs33.length xs39) c24) := sl_len (gcopyAt_len (by have := gslice_some hx34; omega)).symm
    rw [hsl]; rw [hsl] at H; clear hsl
    refine w_end (q_then (c_seq (rg (sm (Sl (some ⟨b23, 0, none⟩) (gcopyAt (gcopyAt xs21 (Dm).toNat xs26.length Dn) (w64 (Dm + (Dn.length : Int))).toNat xs33.length xs39) c24) rfl (sa (Sl (some ⟨b23, 0, none⟩) (gcopyAt (gcopyAt xs21 (Dm).toNat xs26.length Dn) (w64 (Dm + (Dn.length : Int))).toNat xs33.length xs39) c24) rfl (w_end (q_then (c_ret (q_then_r ?_)))))))))
    replace H := H.ownLow 0 0 0 rfl (Nat.zero_le _) (Nat.le_refl _)
    obtain rfl := sj h
    exact fin_ret (v := (Sl (some ⟨b23, 0, none⟩) (gcopyAt (gcopyAt xs21 (Dm).toNat xs26.length Dn) (w64 (Dm + (Dn.length : Int))).toNat xs33.length xs39) c24)) (results_ok Tryz.results67 (res_tmp (v := (Sl (some ⟨b23, 0, none⟩) (gcopyAt (gcopyAt xs21 (Dm).toNat xs26.length Dn) (w64 (Dm + (Dn.length : Int))).toNat xs33.length xs39) c24)) rfl res_nil) rfl) ⟨(some ⟨b23, 0, none⟩), c24, rfl, rfl⟩ (H.sel' [0] rfl rfl)
   ·replace h := bif_f hb14 h
    cases h

theorem c_impl_PutItem {Ak : List (Int × (List Int) × Int)} {Ax : Int × (List Int) × Int} {Am : Option Addr} {Ao : Nat} {Ay : Option Addr} {Az : Nat} {r : (List (Int × (List Int) × Int)) × Bool} (h : M.impl_PutItem Ak Ax = some r) :
    Cal2 Tryz.prog 42 [(Sl Am Ak Ao), (.agg #[(I Ax.1), (Sl Ay Ax.2.1 Az), (I Ax.2.2)])] [Ch.ro 0 (Sl Am Ak Ao) Ak, Ch.ro 0 (Sl Ay Ax.2.1 Az) Ax.2.1] (fun n0 v L => ∃ (az1 : Option Addr), ∃ (cz2 : Nat), v = (.tuple #[(Sl az1 r.1 cz2), (B r.2)]) ∧ L = [Ch.own 0 0 (Sl az1 r.1 cz2) r.1]) := by
 refine cal2 (n := 43) Tryz.func42 rfl rfl rfl rfl ?_
 intro S0 σ0 n0 hn0 H
 unfold M.impl_PutItem at h
 refine c_seq (rg (st_ex (ex_box (cs := [(I Ax.1), (Sl Ay Ax.2.1 Az), (I Ax.2.2)]) H hn0 rfl rfl) wn ?_))
 rintro _ σ2 ⟨b1, rfl, H, -⟩
 refine sa (.slice none 0 0) rfl (sa (B false) rfl (w_end (q_then (c_seq (c_seq ?_)))))
 obtain ⟨o3, hj, h'⟩ := bind_some h
 clear h
 refine c_cut (fun e a w => e = .normal ∧ ∃ (ρ : Nat → Value) (σ : St), a = fr 43 (updL ρ [(0, (Sl Am Ak Ao)), (3, (pt b1 0)), (16, (B o3))]) ∧ w = σ.w ∧ Hp S0 σ0 σ [Ch.ro 0 (Sl Am Ak Ao) Ak, Ch.ro 0 (Sl Ay Ax.2.1 Az) Ax.2.1, Ch.bx n0 b1 0 [(I Ax.1), (Sl Ay Ax.2.1 Az), (I Ax.2.2)] [] []]) ?_ ?_
 ·clear h'
  rename _ = some o3 => h
  refine rg (sm (Sl Am Ak Ao) rfl ?_)
  revert h; refine br fun r4 hx5 h => ?_
  have hc6 := c_impl_ValidStore (Am := Am) (Ao := Ao) hx5
  refine st_call (cx_call hc6 (ent_f hc6.fn rfl) hn0 (H.sel' [1, 0, 1, 2] rfl rfl : Hp S0 σ0 _ ([_] ++ _))) wn ?_
  rintro _ σ7 ⟨_, ⟨rfl, rfl⟩, H, -⟩
  replace H : Hp _ _ _ [_, _, _] := H
  refine st (v := (B (!r4))) (rv_not rfl) (sm (B (!r4)) rfl ?_)
  rcases Bool.eq_false_or_eq_true (!r4) with hb8 | hb8
  ·replace h := bif_t hb8 h
   refine st_skip (congrArg some hb8) (st_skip (congrArg some hb8) (st_skip (congrArg some hb8) (st (v := (B true)) (rv_pick_t (congrArg B hb8) rfl) (w_end ?_))))
   obtain rfl := sj h
   exact ⟨rfl, _, σ7, fr_join ⟨rfl, rfl, rfl, trivial⟩, rfl, H.sel' [1, 2, 0] rfl rfl⟩
  ·replace h := bif_f hb8 h
   have hc9 := H.cells 0 rfl
   refine st_g (v := (.agg #[(I Ax.1), (Sl Ay Ax.2.1 Az), (I Ax.2.2)])) (congrArg some hb8) (rv_load (cs := [(I Ax.1), (Sl Ay Ax.2.1 Az), (I Ax.2.2)]) Tryz.underlying67 rfl ti67 rfl rfl hc9) ?_
   revert h; refine br fun r10 hx11 h => ?_
   have hc12 := c_impl_validItem (Av := Ay) (Aw := Az) hx11
   refine st_call (cx_call hc12 (ent_f hc12.fn rfl) hn0 (H.sel' [2, 0, 1, 2] rfl rfl : Hp S0 σ0 _ ([_] ++ _))) (wanted_yes rfl (by exact (congrArg some hb8))) ?_
   rintro _ σ13 ⟨_, ⟨rfl, rfl⟩, H, -⟩
   replace H : Hp _ _ _ [_, _, _] := H
   refine st_g (v := (B (!r10))) (congrArg some hb8) (rv_not rfl) (st (v := (B (!r10))) (rv_pick_f (congrArg B hb8) rfl) (w_end ?_))
   obtain rfl := sj h
   exact ⟨rfl, _, σ13, fr_join ⟨rfl, rfl, rfl, trivial⟩, rfl, H.sel' [1, 2, 0] rfl rfl⟩
 ·clear hj
  have h := h'
  clear h' H
  rintro e a w ⟨rfl, ρ, σ14, rfl, rfl, H⟩
  refine q_then ?_
  refine cd_cond o3 rfl (fun hb15 => ?_) (fun hb15 => ?_)
  ·replace h := bif_t hb15 h
   refine c_seq (rg (sa (.slice none 0 0) rfl (sa (B false) rfl (w_end (q_then (c_ret (q_then_r ?_)))))))
   replace H := H.nilOwn (Int × (List Int) × Int) 0 0
   obtain rfl := sj h
   exact fin_ret (v := (.tuple #[(.slice none 0 0), (B false)])) (results_ok Tryz.results42 (res_tmp (v := (.slice none 0 0)) rfl (res_tmp (v := (B false)) rfl res_nil)) rfl) ⟨none, 0, rfl, rfl⟩ (H.sel' [0] rfl rfl)
  ·replace h := bif_f hb15 h
   refine c_skip (q_then (c_seq (rg (sm (Sl Am Ak Ao) rfl (st (v := (pt b1 0)) (rv_fieldAddr (off := 0) (ft := 3) Tryz.underlying67 rfl ti3 rfl rfl) ?_)))))
   have hc16 := H.cell (u := (I Ax.1)) (o' := 0) 2 0 rfl rfl rfl
   refine st (v := (I Ax.1)) (rv_load1 Tryz.underlying3 rfl rfl hc16) ?_
   revert h; refine br fun r17 hx18 h => ?_
   have hc19 := c_impl_placeOf (Am := Am) (Ao := Ao) hx18
   refine st_call (cx_call hc19 (ent_f hc19.fn rfl) hn0 (H.sel' [0, 0, 1, 2] rfl rfl : Hp S0 σ0 _ ([_] ++ _))) wn ?_
   rintro _ σ20 ⟨_, ⟨rfl, rfl⟩, H, -⟩
   replace H : Hp _ _ _ [_, _, _] := H
   refine sm (.tuple #[(I r17.1), (B r17.2)]) rfl (st (v := (I r17.1)) (rv_extract rfl rfl) (st (v := (B r17.2)) (rv_extract rfl rfl) (sa (I r17.1) rfl (sa (B r17.2) rfl (w_end (q_then (c_seq (c_seq (rg (sm (B r17.2) rfl (w_end ?_)))))))))))
   refine q_then ?_
   refine cd_cond r17.2 rfl (fun hb21 => ?_) (fun hb21 => ?_)
   ·replace h := bif_t hb21 h
    refine c_seq (rg (sm (Sl Am Ak Ao) rfl ?_))
    revert h; refine br fun r22 hx23 h => ?_
    have hc24 := c_impl_copyItems (Am := Am) (Ao := Ao) hx23
    refine st_call (cx_call hc24 (ent_f hc24.fn rfl) hn0 (H.sel' [0, 0, 1, 2] rfl rfl : Hp S0 σ0 _ ([_] ++ _))) wn ?_
    rintro _ σ28 ⟨_, ⟨a25, c26, rfl, rfl, ht27⟩, H, -⟩
    replace H : Hp _ _ _ [_, _, _, _] := H
    refine sa (Sl a25 r22 c26) rfl (w_end (q_then (c_seq (rg (sm (Sl a25 r22 c26) rfl (sm (I r17.1) rfl ?_))))))
    have hc29 := H.cells 3 rfl
    refine st (v := (.agg #[(I Ax.1), (Sl Ay Ax.2.1 Az), (I Ax.2.2)])) (rv_load (cs := [(I Ax.1), (Sl Ay Ax.2.1 Az), (I Ax.2.2)]) Tryz.underlying67 rfl ti67 rfl rfl hc29) ?_
    revert h; refine br fun r30 hx31 h => ?_
    have hc32 := c_impl_copyItem (Av := Ay) (Aw := Az) hx31
    refine st_call (cx_call hc32 (ent_f hc32.fn rfl) hn0 (H.sel' [2, 0, 1, 2, 3] rfl rfl : Hp S0 σ0 _ ([_] ++ _))) wn ?_
    rintro _ σ35 ⟨_, ⟨a33, c34, rfl, rfl⟩, H, -⟩
    replace H : Hp _ _ _ [_, _, _, _, _] := H
    revert h; refine br fun x36 hx37 h => ?_
    obtain ⟨b39, o40, hi38, -⟩ := (H.own 1 rfl).ix hx37
    refine st (v := (pt b39 o40)) (rv_ix Tryz.underlying29 ti67 rfl rfl hi38) ?_
    obtain ⟨σ41, hw42, H, -⟩ := H.pub 0 rfl (Nat.le_refl _)
    rw [← hw42]; clear hw42
    refine st_exS (ex_store_own (e' := (r30.1, r30.2.1, r30.2.2)) (vs := [(I r30.1), (Sl a33 r30.2.1 c34), (I r30.2.2)]) (k := 0) H (i := 1) rfl ti67 hx37 hi38 rfl rfl rfl rfl rfl (Nat.le_of_ble_eq_true rfl) (by simp [plain]) (by rintro _ ⟨_, _, rfl, rfl, ⟨_, _, rfl, ⟨_, rfl, hR45⟩, rfl⟩⟩; exact ⟨[(I r30.1)], [(Sl a33 r30.2.1 c34), (I r30.2.2)], rfl, rfl, ⟨[(Sl a33 r30.2.1 c34)], [(I r30.2.2)], rfl, ⟨_, rfl, (H.ro 0 rfl)⟩, rfl⟩⟩)) wn ?_
    rintro σ46 ⟨H, -⟩
    have hsl : (Sl a25 r22 c26) = (Sl a25 (r22.set r17.1.toNat (r30.1, r30.2.1, r30.2.2)) c26) := sl_len List.length_set.symm
    rw [hsl]; rw [hsl] at H; clear hsl
    refine w_end (q_then (c_seq (rg (sm (Sl a25 (r22.set r17.1.toNat (r30.1, r30.2.1, r30.2.2)) c26) rfl (sa (Sl a25 (r22.set r17.1.toNat (r30.1, r30.2.1, r30.2.2)) c26) rfl (sa (B true) rfl (w_end (q_then (c_ret (q_then_r ?_))))))))))
    replace H := H.ownLow 0 0 0 rfl (Nat.zero_le _) (Nat.zero_le _)
    obtain rfl := sj h
    exact fin_ret (v := (.tuple #[(Sl a25 (r22.set r17.1.toNat (r30.1, r30.2.1, r30.2.2)) c26), (B true)])) (results_ok Tryz.results42 (res_tmp (v := (Sl a25 (r22.set r17.1.toNat (r30.1, r30.2.1, r30.2.2)) c26)) rfl (res_tmp (v := (B true)) rfl res_nil)) rfl) ⟨a25, c26, rfl, rfl⟩ (H.sel' [0] rfl rfl)
   ·replace h := bif_f hb21 h
    refine c_skip (q_then (c_seq (c_seq (rg (sm (Sl Am Ak Ao) rfl (st (v := (I (Ak.length : Int))) (rv_len Tryz.underlying29 rfl) (st (v := (B ((Ak.length : Int) == 16))) (rv_eql (a := (Ak.length : Int)) (b := 16) rfl rfl) (w_end (q_then ?_)))))))))
    refine cd_cond ((Ak.length : Int) == 16) rfl (fun hb47 => ?_) (fun hb47 => ?_)
    ·replace h := bif_t hb47 h
     refine c_seq (rg (sa (.slice none 0 0) rfl (sa (B false) rfl (w_end (q_then (c_ret (q_then_r ?_)))))))
     replace H := H.nilOwn (Int × (List Int) × Int) 0 0
     obtain rfl := sj h
     exact fin_ret (v := (.tuple #[(.slice none 0 0), (B false)])) (results_ok Tryz.results42 (res_tmp (v := (.slice none 0 0)) rfl (res_tmp (v := (B false)) rfl res_nil)) rfl) ⟨none, 0, rfl, rfl⟩ (H.sel' [0] rfl rfl)
    ·replace h := bif_f hb47 h
     refine c_skip (q_then (c_seq ?_))
     revert h; refine br fun r48 hx49 h => ?_
     have hc50 := c_impl_copyItems (Am := Am) (Ao := Ao) hx49
     have hc54 := H.cells 2 rfl
     revert h; refine br fun r55 hx56 h => ?_
     have hc57 := c_impl_copyItem (Av := Ay) (Aw := Az) hx56
     have Hs := H
     refine rg2 (σ := σ20) (Nm := (Option Addr) × (Nat) × (Option Addr) × (Nat) × (Nat)) 6 [1, 4, 5] [[false, false, false], [true, false, false], [true, true, false], [true, true, true]] [[(0, 0)], [(0, 1)], [(0, 0), (1, 1), (2, 2), (3, 3)], [(0, 0), (1, 1)], [(1, 2)], [(2, 3)]] 3 [fun ((a51, c52, a58, c59, b60) : (Option Addr) × (Nat) × (Option Addr) × (Nat) × (Nat)) => fun σm => Hp S0 σ0 σm [Ch.ro 0 (Sl Am Ak Ao) Ak, Ch.ro 0 (Sl Ay Ax.2.1 Az) Ax.2.1, Ch.bx n0 b1 0 [(I Ax.1), (Sl Ay Ax.2.1 Az), (I Ax.2.2)] [] []] ∧ Md (cov []) σ20 σm, fun ((a51, c52, a58, c59, b60) : (Option Addr) × (Nat) × (Option Addr) × (Nat) × (Nat)) => fun σm => Hp S0 σ0 σm [Ch.own n0 n0 (Sl a51 r48 c52) r48, Ch.ro 0 (Sl Am Ak Ao) Ak, Ch.ro 0 (Sl Ay Ax.2.1 Az) Ax.2.1, Ch.bx n0 b1 0 [(I Ax.1), (Sl Ay Ax.2.1 Az), (I Ax.2.2)] [] []] ∧ Md (cov []) σ20 σm ∧ c52 = r48.length, fun ((a51, c52, a58, c59, b60) : (Option Addr) × (Nat) × (Option Addr) × (Nat) × (Nat)) => fun σm => Hp S0 σ0 σm [Ch.ro n0 (Sl a58 r55.2.1 c59) r55.2.1, Ch.own n0 n0 (Sl a51 r48 c52) r48, Ch.ro 0 (Sl Am Ak Ao) Ak, Ch.ro 0 (Sl Ay Ax.2.1 Az) Ax.2.1, Ch.bx n0 b1 0 [(I Ax.1), (Sl Ay Ax.2.1 Az), (I Ax.2.2)] [] []] ∧ Md (fun i => (cov []) i ∨ (fun i => (cov [Ch.ro 0 (Sl Ay Ax.2.1 Az) Ax.2.1]) i ∨ (fun b => blk (Sl a58 r55.2.1 c59) = some b) i) i) σ20 σm ∧ c52 = r48.length, fun ((a51, c52, a58, c59, b60) : (Option Addr) × (Nat) × (Option Addr) × (Nat) × (Nat)) => fun σm => Hp S0 σ0 σm [Ch.own n0 n0 (Sl (some ⟨b60, 0, none⟩) ([(r55.1, r55.2.1, r55.2.2)] : List (Int × (List Int) × Int)) 1) ([(r55.1, r55.2.1, r55.2.2)] : List (Int × (List Int) × Int)), Ch.ro n0 (Sl a58 r55.2.1 c59) r55.2.1, Ch.own n0 n0 (Sl a51 r48 c52) r48, Ch.ro 0 (Sl Am Ak Ao) Ak, Ch.ro 0 (Sl Ay Ax.2.1 Az) Ax.2.1, Ch.bx n0 b1 0 [(I Ax.1), (Sl Ay Ax.2.1 Az), (I Ax.2.2)] [] []] ∧ Md (fun i => (cov []) i ∨ (fun i => (cov [Ch.ro 0 (Sl Ay Ax.2.1 Az) Ax.2.1]) i ∨ (fun b => blk (Sl a58 r55.2.1 c59) = some b) i) i) σ20 σm ∧ c52 = r48.length] [fun ((a51, c52, a58, c59, b60) : (Option Addr) × (Nat) × (Option Addr) × (Nat) × (Nat)) => (Sl Am Ak Ao), fun ((a51, c52, a58, c59, b60) : (Option Addr) × (Nat) × (Option Addr) × (Nat) × (Nat)) => (Sl a51 r48 c52), fun ((a51, c52, a58, c59, b60) : (Option Addr) × (Nat) × (Option Addr) × (Nat) × (Nat)) => (I r17.1), fun ((a51, c52, a58, c59, b60) : (Option Addr) × (Nat) × (Option Addr) × (Nat) × (Nat)) => (.agg #[(I Ax.1), (Sl Ay Ax.2.1 Az), (I Ax.2.2)]), fun ((a51, c52, a58, c59, b60) : (Option Addr) × (Nat) × (Option Addr) × (Nat) × (Nat)) => (.agg #[(I r55.1), (Sl a58 r55.2.1 c59), (I r55.2.2)]), fun ((a51, c52, a58, c59, b60) : (Option Addr) × (Nat) × (Option Addr) × (Nat) × (Nat)) => (Sl (some ⟨b60, 0, none⟩) ([(r55.1, r55.2.1, r55.2.2)] : List (Int × (List Int) × Int)) 1)] (none, 0, none, 0, 0) (by kernel_rfl) (by kernel_rfl) ?_ ?_ ?_
     ·intro σm m0
      exact ⟨H.grow (m0.mono fun _ h => h.elim), m0⟩
     ·refine ac rfl (by
        intro k; rintro ⟨a51, c52, a58, c59, b60⟩ ρ σm hJ hoff hdep
        have e0 := look_off (N := 43) (hoff 0 rfl) rfl
        exact dp_v (v := (Sl Am Ak Ao)) wn (rv_move e0) rfl hJ) ?_
      refine all_cons (by
        refine ⟨?_, ?_⟩
        ·rintro ⟨a51, c52, a58, c59, b60⟩ ρ σm hJ hoff hdep
         have e36 : look 43 ρ 36 = (Sl Am Ak Ao) := hdep 0 rfl rfl 36 rfl
         obtain ⟨H, m⟩ := id hJ
         refine dp_cx wn (cx_call hc50 (ent_f hc50.fn (by show [look 43 ρ 36] = _; rw [e36])) hn0 (H.sel' [0, 0, 1, 2] rfl rfl : Hp S0 σ0 _ ([_] ++ _))) ?_
         rintro _ σq ⟨_, ⟨a51x, c52x, rfl, rfl, ht53⟩, H2, m2⟩
         exact ⟨_, (a51x, c52x, a58, c59, b60), rfl, rfl, ⟨H2.sel' [0, 1, 2, 3] rfl rfl, m.comp0 (m2.mono (fun i h => by simp [cov, Ch.ro] at h)), ht53⟩, stab [0, 2, 3] (by kernel_rfl) ⟨rfl, rfl, rfl, trivial⟩⟩
        trivial) ?_
      refine ac rfl (by
        intro k; rintro ⟨a51, c52, a58, c59, b60⟩ ρ σm hJ hoff hdep
        have e6 := look_off (N := 43) (hoff 6 rfl) rfl
        exact dp_v (v := (I r17.1)) wn (rv_move e6) rfl hJ) ?_
      refine all_cons (by
        refine ⟨?_, ?_⟩
        ·rintro ⟨a51, c52, a58, c59, b60⟩ ρ σm hJ hoff hdep
         have e3 := look_off (N := 43) (hoff 3 rfl) rfl
         obtain ⟨H, m⟩ := id hJ
         have hc54 := H.cells 2 rfl
         exact dp_v (v := (.agg #[(I Ax.1), (Sl Ay Ax.2.1 Az), (I Ax.2.2)])) wn (rv_load (cs := [(I Ax.1), (Sl Ay Ax.2.1 Az), (I Ax.2.2)]) Tryz.underlying67 rfl ti67 e3 rfl hc54) rfl hJ
        refine ⟨?_, ?_⟩
        ·rintro ⟨a51, c52, a58, c59, b60⟩ ρ σm hJ hoff hdep
         have e3 := look_off (N := 43) (hoff 3 rfl) rfl
         obtain ⟨H, m, ht53⟩ := id hJ
         have hc54 := H.cells 3 rfl
         exact dp_v (v := (.agg #[(I Ax.1), (Sl Ay Ax.2.1 Az), (I Ax.2.2)])) wn (rv_load (cs := [(I Ax.1), (Sl Ay Ax.2.1 Az), (I Ax.2.2)]) Tryz.underlying67 rfl ti67 e3 rfl hc54) rfl hJ
        trivial) ?_
      refine all_cons (by
        refine ⟨?_, ?_⟩
        ·rintro ⟨a51, c52, a58, c59, b60⟩ ρ σm hJ hoff hdep
         have e39 : look 43 ρ 39 = (.agg #[(I Ax.1), (Sl Ay Ax.2.1 Az), (I Ax.2.2)]) := hdep 3 rfl rfl 39 rfl
         obtain ⟨H, m, ht53⟩ := id hJ
         refine dp_cx wn (cx_call hc57 (ent_f hc57.fn (by show [look 43 ρ 39] = _; rw [e39])) hn0 (H.sel' [2, 0, 1, 2, 3] rfl rfl : Hp S0 σ0 _ ([_] ++ _))) ?_
         rintro _ σq ⟨_, ⟨a58x, c59x, rfl, rfl⟩, H2, m2⟩
         obtain ⟨σr0, hwr0, H2, mr0⟩ := H2.pub 0 rfl (Nat.le_refl _)
         exact ⟨_, (a51, c52, a58x, c59x, b60), hwr0, rfl, ⟨H2.sel' [0, 1, 2, 3, 4] rfl rfl, m.comp (m2.comp mr0), ht53⟩, stab [0, 1, 2, 3] (by kernel_rfl) ⟨rfl, rfl, rfl, rfl, trivial⟩⟩
        trivial) ?_
      refine all_cons (by
        refine ⟨?_, ?_⟩
        ·rintro ⟨a51, c52, a58, c59, b60⟩ ρ σm hJ hoff hdep
         have e40 : look 43 ρ 40 = (.agg #[(I r55.1), (Sl a58 r55.2.1 c59), (I r55.2.2)]) := hdep 4 rfl rfl 40 rfl
         obtain ⟨H, m, ht53⟩ := id hJ
         refine dp_ex wn (ex_buildSlice (el := n0) (xs := ([(r55.1, r55.2.1, r55.2.2)] : List (Int × (List Int) × Int))) (ps := [(0, (.agg #[(I r55.1), (Sl a58 r55.2.1 c59), (I r55.2.2)]))]) (cs := [(I r55.1), (Sl a58 r55.2.1 c59), (I r55.2.2)]) H hn0 Tryz.underlying29 ti67 rfl (by show [(0, look 43 ρ 40)] = _; rw [e40]) (by kernel_rfl) (.cons (c := [(I r55.1), (Sl a58 r55.2.1 c59), (I r55.2.2)]) ⟨[(I r55.1)], [(Sl a58 r55.2.1 c59), (I r55.2.2)], rfl, rfl, ⟨[(Sl a58 r55.2.1 c59)], [(I r55.2.2)], rfl, ⟨_, rfl, (H.ro 0 rfl)⟩, rfl⟩⟩ (.nil)) rfl) ?_
         rintro _ σq ⟨b60x, rfl, H2, m2⟩
         exact ⟨_, (a51, c52, a58, c59, b60x), rfl, rfl, ⟨H2.sel' [0, 1, 2, 3, 4, 5] rfl rfl, m.comp0 m2, ht53⟩, stab [0, 1, 2, 3, 4] (by kernel_rfl) ⟨rfl, rfl, rfl, rfl, rfl, trivial⟩⟩
        trivial) ?_
      exact all_nil
     ·rintro ⟨a51, c52, a58, c59, b60⟩ ρ σ61 hJ hoff hrel
      have e37 := hrel 1 rfl 37 rfl
      have e38 := hrel 2 rfl 38 rfl
      have e41 := hrel 5 rfl 41 rfl
      obtain ⟨H, -, ht53⟩ := (show Hp S0 σ0 σ61 [Ch.own n0 n0 (Sl (some ⟨b60, 0, none⟩) ([(r55.1, r55.2.1, r55.2.2)] : List (Int × (List Int) × Int)) 1) ([(r55.1, r55.2.1, r55.2.2)] : List (Int × (List Int) × Int)), Ch.ro n0 (Sl a58 r55.2.1 c59) r55.2.1, Ch.own n0 n0 (Sl a51 r48 c52) r48, Ch.ro 0 (Sl Am Ak Ao) Ak, Ch.ro 0 (Sl Ay Ax.2.1 Az) Ax.2.1, Ch.bx n0 b1 0 [(I Ax.1), (Sl Ay Ax.2.1 Az), (I Ax.2.2)] [] []] ∧ Md (fun i => (cov []) i ∨ (fun i => (cov [Ch.ro 0 (Sl Ay Ax.2.1 Az) Ax.2.1]) i ∨ (fun b => blk (Sl a58 r55.2.1 c59) = some b) i) i) σ20 σ61 ∧ c52 = r48.length from hJ)
      clear hJ Hs
      rw [fr_lookL (L := [(37, (Sl a51 r48 c52)), (38, (I r17.1)), (41, (Sl (some ⟨b60, 0, none⟩) ([(r55.1, r55.2.1, r55.2.2)] : List (Int × (List Int) × Int)) 1))]) ⟨e37, e38, e41, trivial⟩]
      clear hoff hrel e37 e38 e41
      obtain ⟨σ62, hw63, H, -⟩ := H.pub 0 rfl (Nat.le_refl _)
      rw [← hw63]; clear hw63
      replace H := H.ownLow 2 0 0 rfl (Nat.zero_le _) (Nat.zero_le _)
      replace H := H.roLow 1 0 rfl (Nat.zero_le _)
      revert h; refine br fun r64 hx65 h => ?_
      have hc66 := c_slices_Insert_impl_Item_impl_Item (Dj := a51) (Dk := c52) (Do := ht53) (Dq := (some ⟨b60, 0, none⟩)) (Dr := 1) hx65
      refine st_call (cx_call hc66 (ent_f hc66.fn rfl) hn0 (H.sel' [1, 0, 0, 2, 3, 4, 5, 6] rfl rfl : Hp S0 σ0 _ ([_, _] ++ _))) wn ?_
      rintro _ σ69 ⟨_, ⟨a67, c68, rfl, rfl⟩, H, -⟩
      replace H : Hp _ _ _ [_, _, _, _, _, _, _] := H
      refine sa (Sl a67 r64 c68) rfl (sa (B true) rfl (w_end (q_then (c_ret ?_))))
      obtain rfl := sj h
      exact fin_ret (v := (.tuple #[(Sl a67 r64 c68), (B true)])) (results_ok Tryz.results42 (res_tmp (v := (Sl a67 r64 c68)) rfl (res_tmp (v := (B true)) rfl res_nil)) rfl) ⟨a67, c68, rfl, rfl⟩ (H.sel' [0] rfl rfl)

theorem c_impl_session_become {Af : (List (Int × (List Int) × Int)) × Int} {Ds : List (Int × (List Int) × Int)} {Dt : Bool} {Cj : Option Addr} {Ck : Nat} {Cl Cm Cn : Nat} {Cp Cq : List Value} {Du : Option Addr} {Dv : Nat} {r : ByteArray × ((List (Int × (List Int) × Int)) × Int)} (h : M.impl_session_become Af Ds Dt = some r) :
    Cal2 Tryz.prog 41 [(pt Cm Cn), (Sl Du Ds Dv), (B Dt)] [Ch.bx Cl Cm Cn [(Sl Cj Af.1 Ck), (I Af.2)] Cp Cq, Ch.ro 0 (Sl Cj Af.1 Ck) Af.1, Ch.ro 0 (Sl Du Ds Dv) Ds] (fun n0 v L => ∃ (az1 : Option Addr), ∃ (cz2 : Nat), v = (.string r.1) ∧ L = [Ch.bx Cl Cm Cn [(Sl az1 r.2.1 cz2), (I r.2.2)] Cp Cq, Ch.ro 0 (Sl az1 r.2.1 cz2) r.2.1]) := by
 refine cal2 (n := 13) Tryz.func41 rfl rfl rfl rfl ?_
 intro S0 σ0 n0 hn0 H
 unfold M.impl_session_become at h
 refine c_seq (rg (sa (.string (ByteArray.mk #[])) rfl (w_end (q_then (c_seq (c_seq (rg (sm (B Dt) rfl (st (v := (B (!Dt))) (rv_not rfl) (w_end (q_then ?_)))))))))))
 refine cd_cond (!Dt) rfl (fun hb1 => ?_) (fun hb1 => ?_)
 ·replace h := bif_t hb1 h
  refine c_seq (rg (sa (.string (ByteArray.mk #[110, 111])) rfl (w_end (q_then (c_ret (q_then_r ?_))))))
  obtain rfl := sj h
  exact fin_ret (v := (.string (ByteArray.mk #[110, 111]))) (results_ok Tryz.results41 (res_tmp (v := (.string (ByteArray.mk #[110, 111]))) rfl res_nil) rfl) ⟨Cj, Ck, rfl, rfl⟩ (H.sel' [0, 1] rfl rfl)
 ·replace h := bif_f hb1 h
  refine c_skip (q_then (c_seq (rg (sm (pt Cm Cn) rfl (sm (Sl Du Ds Dv) rfl (st (v := (pt Cm Cn)) (rv_nilCheck rfl) (st (v := (pt Cm Cn)) (rv_fieldAddr (off := 0) (ft := 29) Tryz.underlying34 rfl ti29 rfl rfl) ?_)))))))
  refine st_exS (ex_store_box (k := 0) (cs := [(Sl Cj Af.1 Ck), (I Af.2)]) (vs := [(Sl Du Ds Dv)]) (cs' := [(Sl Du Ds Dv), (I Af.2)]) H (i := 0) rfl ti29 rfl rfl rfl rfl rfl (Nat.le_of_ble_eq_true rfl) (by simp [plain]) rfl) wn ?_
  rintro σ2 ⟨H, -⟩
  refine w_end (q_then (c_seq (rg (sa (.string (ByteArray.mk #[111, 107])) rfl (w_end (q_then (c_ret ?_)))))))
  obtain rfl := sj h
  exact fin_ret (v := (.string (ByteArray.mk #[111, 107]))) (results_ok Tryz.results41 (res_tmp (v := (.string (ByteArray.mk #[111, 107]))) rfl res_nil) rfl) ⟨Du, Dv, rfl, rfl⟩ (H.sel' [0, 2] rfl rfl)

theorem c_impl_session_put {Af : (List (Int × (List Int) × Int)) × Int} {Dw : List ByteArray} {Cj : Option Addr} {Ck : Nat} {Cl Cm Cn : Nat} {Cp Cq : List Value} {Dx : Option Addr} {Dy : Nat} {r : ByteArray × ((List (Int × (List Int) × Int)) × Int)} (h : M.impl_session_put Af Dw = some r) :
    Cal2 Tryz.prog 24 [(pt Cm Cn), (Sl Dx Dw Dy)] [Ch.bx Cl Cm Cn [(Sl Cj Af.1 Ck), (I Af.2)] Cp Cq, Ch.ro 0 (Sl Cj Af.1 Ck) Af.1, Ch.ro 0 (Sl Dx Dw Dy) Dw, Ch.gw gw0] (fun n0 v L => ∃ (az1 : Option Addr), ∃ (cz2 : Nat), v = (.string r.1) ∧ L = [Ch.bx Cl Cm Cn [(Sl az1 r.2.1 cz2), (I r.2.2)] Cp Cq, Ch.ro 0 (Sl az1 r.2.1 cz2) r.2.1]) := by
 refine cal2 (n := 27) Tryz.func24 rfl rfl rfl rfl ?_
 intro S0 σ0 n0 hn0 H
 unfold M.impl_session_put at h
 refine c_seq (rg (sa (.string (ByteArray.mk #[])) rfl (w_end (q_then (c_seq ?_)))))
 have hc1 := H.cell (u := (Sl Cj Af.1 Ck)) (o' := Cn) 0 0 rfl rfl rfl
 revert h; refine br fun x2 hx3 h => ?_
 obtain ⟨b5, o6, hi4, -⟩ := (H.ro 2 rfl).ix hx3
 have hc7 := ((H.ro 2 rfl).at hx3 hi4).str
 revert h; refine br fun r8 hx9 h => ?_
 have hc10 := c_impl_readNumber hx9
 revert h; refine br fun x11 hx12 h => ?_
 obtain ⟨b14, o15, hi13, -⟩ := (H.ro 2 rfl).ix hx12
 have hc16 := ((H.ro 2 rfl).at hx12 hi13).str
 revert h; refine br fun r17 hx18 h => ?_
 have hc19 := c_impl_readVector hx18
 revert h; refine br fun x22 hx23 h => ?_
 obtain ⟨b25, o26, hi24, -⟩ := (H.ro 2 rfl).ix hx23
 have hc27 := ((H.ro 2 rfl).at hx23 hi24).str
 revert h; refine br fun r28 hx29 h => ?_
 have hc30 := c_impl_readNumber hx29
 revert h; refine br fun r31 hx32 h => ?_
 have hc33 := fun (a20 : Option Addr) (c21 : Nat) => c_impl_PutItem (Am := Cj) (Ao := Ck) (Ay := a20) (Az := c21) hx32
 have Hs := H
 refine rg2 (σ := σ0) (Nm := (Option Addr) × (Nat) × (Option Addr) × (Nat)) 21 [8, 12, 16, 18] [[false, false, false, false], [true, false, false, false], [true, true, false, false], [true, true, true, false], [true, true, true, true]] [[(0, 0), (1, 1), (2, 2), (3, 3), (4, 4)], [(0, 0), (1, 1), (2, 2), (3, 3)], [(0, 0), (1, 1), (2, 2), (3, 3)], [(0, 0), (1, 1), (2, 2), (3, 3)], [(0, 0), (1, 1), (2, 2), (3, 3)], [(0, 0)], [(0, 0)], [(0, 0)], [(0, 1)], [(0, 0), (1, 1)], [(0, 0), (1, 1)], [(0, 0), (1, 1)], [(1, 2)], [(0, 0), (1, 1), (2, 2)], [(0, 0), (1, 1), (2, 2)], [(0, 0), (1, 1), (2, 2)], [(2, 3)], [(3, 3)], [(3, 4)], [(4, 4)], [(4, 4)]] 4 [fun ((a20, c21, a34, c35) : (Option Addr) × (Nat) × (Option Addr) × (Nat)) => fun σm => Hp S0 σ0 σm [Ch.bx Cl Cm Cn [(Sl Cj Af.1 Ck), (I Af.2)] Cp Cq, Ch.ro 0 (Sl Cj Af.1 Ck) Af.1, Ch.ro 0 (Sl Dx Dw Dy) Dw, Ch.gw gw0] ∧ Md (cov []) σ0 σm, fun ((a20, c21, a34, c35) : (Option Addr) × (Nat) × (Option Addr) × (Nat)) => fun σm => Hp S0 σ0 σm [Ch.bx Cl Cm Cn [(Sl Cj Af.1 Ck), (I Af.2)] Cp Cq, Ch.ro 0 (Sl Cj Af.1 Ck) Af.1, Ch.ro 0 (Sl Dx Dw Dy) Dw, Ch.gw gw0] ∧ Md (cov []) σ0 σm, fun ((a20, c21, a34, c35) : (Option Addr) × (Nat) × (Option Addr) × (Nat)) => fun σm => Hp S0 σ0 σm [Ch.ro 0 (Sl a20 r17 c21) r17, Ch.bx Cl Cm Cn [(Sl Cj Af.1 Ck), (I Af.2)] Cp Cq, Ch.ro 0 (Sl Cj Af.1 Ck) Af.1, Ch.ro 0 (Sl Dx Dw Dy) Dw, Ch.gw gw0] ∧ Md (fun i => (cov []) i ∨ (fun i => (cov [Ch.gw gw0]) i ∨ (fun b => blk (Sl a20 r17 c21) = some b) i) i) σ0 σm, fun ((a20, c21, a34, c35) : (Option Addr) × (Nat) × (Option Addr) × (Nat)) => fun σm => Hp S0 σ0 σm [Ch.ro 0 (Sl a20 r17 c21) r17, Ch.bx Cl Cm Cn [(Sl Cj Af.1 Ck), (I Af.2)] Cp Cq, Ch.ro 0 (Sl Cj Af.1 Ck) Af.1, Ch.ro 0 (Sl Dx Dw Dy) Dw, Ch.gw gw0] ∧ Md (fun i => (cov []) i ∨ (fun i => (cov [Ch.gw gw0]) i ∨ (fun b => blk (Sl a20 r17 c21) = some b) i) i) σ0 σm, fun ((a20, c21, a34, c35) : (Option Addr) × (Nat) × (Option Addr) × (Nat)) => fun σm => Hp S0 σ0 σm [Ch.own 0 0 (Sl a34 r31.1 c35) r31.1, Ch.ro 0 (Sl a20 r17 c21) r17, Ch.bx Cl Cm Cn [(Sl Cj Af.1 Ck), (I Af.2)] Cp Cq, Ch.ro 0 (Sl Cj Af.1 Ck) Af.1, Ch.ro 0 (Sl Dx Dw Dy) Dw, Ch.gw gw0] ∧ Md (fun i => (cov []) i ∨ (fun i => (cov [Ch.gw gw0]) i ∨ (fun b => blk (Sl a20 r17 c21) = some b) i) i) σ0 σm] [fun ((a20, c21, a34, c35) : (Option Addr) × (Nat) × (Option Addr) × (Nat)) => (pt Cm Cn), fun ((a20, c21, a34, c35) : (Option Addr) × (Nat) × (Option Addr) × (Nat)) => (pt Cm Cn), fun ((a20, c21, a34, c35) : (Option Addr) × (Nat) × (Option Addr) × (Nat)) => (pt Cm Cn), fun ((a20, c21, a34, c35) : (Option Addr) × (Nat) × (Option Addr) × (Nat)) => (pt Cm Cn), fun ((a20, c21, a34, c35) : (Option Addr) × (Nat) × (Option Addr) × (Nat)) => (Sl Cj Af.1 Ck), fun ((a20, c21, a34, c35) : (Option Addr) × (Nat) × (Option Addr) × (Nat)) => (Sl Dx Dw Dy), fun ((a20, c21, a34, c35) : (Option Addr) × (Nat) × (Option Addr) × (Nat)) => (pt b5 o6), fun ((a20, c21, a34, c35) : (Option Addr) × (Nat) × (Option Addr) × (Nat)) => (.string x2), fun ((a20, c21, a34, c35) : (Option Addr) × (Nat) × (Option Addr) × (Nat)) => (I r8), fun ((a20, c21, a34, c35) : (Option Addr) × (Nat) × (Option Addr) × (Nat)) => (Sl Dx Dw Dy), fun ((a20, c21, a34, c35) : (Option Addr) × (Nat) × (Option Addr) × (Nat)) => (pt b14 o15), fun ((a20, c21, a34, c35) : (Option Addr) × (Nat) × (Option Addr) × (Nat)) => (.string x11), fun ((a20, c21, a34, c35) : (Option Addr) × (Nat) × (Option Addr) × (Nat)) => (Sl a20 r17 c21), fun ((a20, c21, a34, c35) : (Option Addr) × (Nat) × (Option Addr) × (Nat)) => (Sl Dx Dw Dy), fun ((a20, c21, a34, c35) : (Option Addr) × (Nat) × (Option Addr) × (Nat)) => (pt b25 o26), fun ((a20, c21, a34, c35) : (Option Addr) × (Nat) × (Option Addr) × (Nat)) => (.string x22), fun ((a20, c21, a34, c35) : (Option Addr) × (Nat) × (Option Addr) × (Nat)) => (I r28), fun ((a20, c21, a34, c35) : (Option Addr) × (Nat) × (Option Addr) × (Nat)) => (.agg #[(I r8), (Sl a20 r17 c21), (I r28)]), fun ((a20, c21, a34, c35) : (Option Addr) × (Nat) × (Option Addr) × (Nat)) => (.tuple #[(Sl a34 r31.1 c35), (B r31.2)]), fun ((a20, c21, a34, c35) : (Option Addr) × (Nat) × (Option Addr) × (Nat)) => (Sl a34 r31.1 c35), fun ((a20, c21, a34, c35) : (Option Addr) × (Nat) × (Option Addr) × (Nat)) => (B r31.2)] (none, 0, none, 0) (by kernel_rfl) (by kernel_rfl) ?_ ?_ ?_
 ·intro σm m0
  exact ⟨H.grow (m0.mono fun _ h => h.elim), m0⟩
 ·refine ac rfl (by
    intro k; rintro ⟨a20, c21, a34, c35⟩ ρ σm hJ hoff hdep
    have e0 := look_off (N := 27) (hoff 0 rfl) rfl
    exact dp_v (v := (pt Cm Cn)) wn (rv_move e0) rfl hJ) ?_
  refine ac rfl (by
    intro k; rintro ⟨a20, c21, a34, c35⟩ ρ σm hJ hoff hdep
    have e0 := look_off (N := 27) (hoff 0 rfl) rfl
    exact dp_v (v := (pt Cm Cn)) wn (rv_move e0) rfl hJ) ?_
  refine ac rfl (by
    intro k; rintro ⟨a20, c21, a34, c35⟩ ρ σm hJ hoff hdep
    have e6 := hdep 1 rfl rfl 6 rfl
    exact dp_v (v := (pt Cm Cn)) wn (rv_nilCheck e6) rfl hJ) ?_
  refine ac rfl (by
    intro k; rintro ⟨a20, c21, a34, c35⟩ ρ σm hJ hoff hdep
    have e7 := hdep 2 rfl rfl 7 rfl
    exact dp_v (v := (pt Cm Cn)) wn (rv_fieldAddr (off := 0) (ft := 29) Tryz.underlying34 rfl ti29 rfl e7) rfl hJ) ?_
  refine all_cons (by
    refine ⟨?_, ?_⟩
    ·rintro ⟨a20, c21, a34, c35⟩ ρ σm hJ hoff hdep
     have e8 := hdep 3 rfl rfl 8 rfl
     obtain ⟨H, m⟩ := id hJ
     have hc1 := H.cell (u := (Sl Cj Af.1 Ck)) (o' := Cn) 0 0 rfl rfl rfl
     exact dp_v (v := (Sl Cj Af.1 Ck)) wn (rv_load1 Tryz.underlying29 rfl e8 hc1) rfl hJ
    refine ⟨?_, ?_⟩
    ·rintro ⟨a20, c21, a34, c35⟩ ρ σm hJ hoff hdep
     have e8 := hdep 3 rfl rfl 8 rfl
     obtain ⟨H, m⟩ := id hJ
     have hc1 := H.cell (u := (Sl Cj Af.1 Ck)) (o' := Cn) 0 0 rfl rfl rfl
     exact dp_v (v := (Sl Cj Af.1 Ck)) wn (rv_load1 Tryz.underlying29 rfl e8 hc1) rfl hJ
    refine ⟨?_, ?_⟩
    ·rintro ⟨a20, c21, a34, c35⟩ ρ σm hJ hoff hdep
     have e8 := hdep 3 rfl rfl 8 rfl
     obtain ⟨H, m⟩ := id hJ
     have hc1 := H.cell (u := (Sl Cj Af.1 Ck)) (o' := Cn) 1 0 rfl rfl rfl
     exact dp_v (v := (Sl Cj Af.1 Ck)) wn (rv_load1 Tryz.underlying29 rfl e8 hc1) rfl hJ
    refine ⟨?_, ?_⟩
    ·rintro ⟨a20, c21, a34, c35⟩ ρ σm hJ hoff hdep
     have e8 := hdep 3 rfl rfl 8 rfl
     obtain ⟨H, m⟩ := id hJ
     have hc1 := H.cell (u := (Sl Cj Af.1 Ck)) (o' := Cn) 1 0 rfl rfl rfl
     exact dp_v (v := (Sl Cj Af.1 Ck)) wn (rv_load1 Tryz.underlying29 rfl e8 hc1) rfl hJ
    trivial) ?_
  refine ac rfl (by
    intro k; rintro ⟨a20, c21, a34, c35⟩ ρ σm hJ hoff hdep
    have e1 := look_off (N := 27) (hoff 1 rfl) rfl
    exact dp_v (v := (Sl Dx Dw Dy)) wn (rv_move e1) rfl hJ) ?_
  refine ac rfl (by
    intro k; rintro ⟨a20, c21, a34, c35⟩ ρ σm hJ hoff hdep
    have e10 := hdep 5 rfl rfl 10 rfl
    exact dp_v (v := (pt b5 o6)) wn (rv_ix Tryz.underlying22 ti9 e10 rfl hi4) rfl hJ) ?_
  refine all_cons (by
    refine ⟨?_, ?_⟩
    ·rintro ⟨a20, c21, a34, c35⟩ ρ σm hJ hoff hdep
     have e11 := hdep 6 rfl rfl 11 rfl
     obtain ⟨H, m⟩ := id hJ
     replace hc7 := (Hs.ro 2 rfl).hmd hx3 hi4 (k := 0) (by decide) hc7 m
     exact dp_v (v := (.string x2)) wn (rv_load1 Tryz.underlying9 rfl e11 hc7) rfl hJ
    trivial) ?_
  refine all_cons (by
    refine ⟨?_, ?_⟩
    ·rintro ⟨a20, c21, a34, c35⟩ ρ σm hJ hoff hdep
     have e12 : look 27 ρ 12 = (.string x2) := hdep 7 rfl rfl 12 rfl
     obtain ⟨H, m⟩ := id hJ
     refine dp_cx wn (cx_call hc10 (ent_f hc10.fn (by show [look 27 ρ 12] = _; rw [e12])) hn0 (H.sel' [3, 0, 1, 2, 3] rfl rfl : Hp S0 σ0 _ ([_] ++ _))) ?_
     rintro _ σq ⟨_, ⟨rfl, rfl⟩, H2, m2⟩
     exact ⟨_, (a20, c21, a34, c35), rfl, rfl, ⟨H2.sel' [0, 1, 2, 3] rfl rfl, m.comp0 (m2.mono (fun i h => by simp [cov, Ch.ro, Ch.gw] at h))⟩, stab [0, 1, 2, 3, 4, 5, 6, 7, 9, 10, 11, 13, 14, 15] (by kernel_rfl) ⟨rfl, rfl, rfl, rfl, rfl, rfl, rfl, rfl, rfl, rfl, rfl, rfl, rfl, rfl, trivial⟩⟩
    trivial) ?_
  refine ac rfl (by
    intro k; rintro ⟨a20, c21, a34, c35⟩ ρ σm hJ hoff hdep
    have e1 := look_off (N := 27) (hoff 1 rfl) rfl
    exact dp_v (v := (Sl Dx Dw Dy)) wn (rv_move e1) rfl hJ) ?_
  refine ac rfl (by
    intro k; rintro ⟨a20, c21, a34, c35⟩ ρ σm hJ hoff hdep
    have e14 := hdep 9 rfl rfl 14 rfl
    exact dp_v (v := (pt b14 o15)) wn (rv_ix Tryz.underlying22 ti9 e14 rfl hi13) rfl hJ) ?_
  refine all_cons (by
    refine ⟨?_, ?_⟩
    ·rintro ⟨a20, c21, a34, c35⟩ ρ σm hJ hoff hdep
     have e15 := hdep 10 rfl rfl 15 rfl
     obtain ⟨H, m⟩ := id hJ
     replace hc16 := (Hs.ro 2 rfl).hmd hx12 hi13 (k := 0) (by decide) hc16 m
     exact dp_v (v := (.string x11)) wn (rv_load1 Tryz.underlying9 rfl e15 hc16) rfl hJ
    refine ⟨?_, ?_⟩
    ·rintro ⟨a20, c21, a34, c35⟩ ρ σm hJ hoff hdep
     have e15 := hdep 10 rfl rfl 15 rfl
     obtain ⟨H, m⟩ := id hJ
     replace hc16 := (Hs.ro 2 rfl).hmd hx12 hi13 (k := 0) (by decide) hc16 m
     exact dp_v (v := (.string x11)) wn (rv_load1 Tryz.underlying9 rfl e15 hc16) rfl hJ
    trivial) ?_
  refine all_cons (by
    refine ⟨?_, ?_⟩
    ·rintro ⟨a20, c21, a34, c35⟩ ρ σm hJ hoff hdep
     have e16 : look 27 ρ 16 = (.string x11) := hdep 11 rfl rfl 16 rfl
     obtain ⟨H, m⟩ := id hJ
     refine dp_cx wn (cx_call hc19 (ent_f hc19.fn (by show [look 27 ρ 16] = _; rw [e16])) hn0 (H.sel' [3, 0, 1, 2, 3] rfl rfl : Hp S0 σ0 _ ([_] ++ _))) ?_
     rintro _ σq ⟨_, ⟨a20x, c21x, rfl, rfl⟩, H2, m2⟩
     obtain ⟨σr0, hwr0, H2, mr0⟩ := H2.pubSc 0 rfl
     exact ⟨_, (a20x, c21x, a34, c35), hwr0, rfl, ⟨H2.sel' [0, 1, 2, 3, 4] rfl rfl, m.comp (m2.comp mr0)⟩, stab [0, 1, 2, 3, 4, 5, 6, 7, 8, 9, 10, 11, 13, 14, 15] (by kernel_rfl) ⟨rfl, rfl, rfl, rfl, rfl, rfl, rfl, rfl, rfl, rfl, rfl, rfl, rfl, rfl, rfl, trivial⟩⟩
    trivial) ?_
  refine ac rfl (by
    intro k; rintro ⟨a20, c21, a34, c35⟩ ρ σm hJ hoff hdep
    have e1 := look_off (N := 27) (hoff 1 rfl) rfl
    exact dp_v (v := (Sl Dx Dw Dy)) wn (rv_move e1) rfl hJ) ?_
  refine ac rfl (by
    intro k; rintro ⟨a20, c21, a34, c35⟩ ρ σm hJ hoff hdep
    have e18 := hdep 13 rfl rfl 18 rfl
    exact dp_v (v := (pt b25 o26)) wn (rv_ix Tryz.underlying22 ti9 e18 rfl hi24) rfl hJ) ?_
  refine all_cons (by
    refine ⟨?_, ?_⟩
    ·rintro ⟨a20, c21, a34, c35⟩ ρ σm hJ hoff hdep
     have e19 := hdep 14 rfl rfl 19 rfl
     obtain ⟨H, m⟩ := id hJ
     replace hc27 := (Hs.ro 2 rfl).hmd hx23 hi24 (k := 0) (by decide) hc27 m
     exact dp_v (v := (.string x22)) wn (rv_load1 Tryz.underlying9 rfl e19 hc27) rfl hJ
    refine ⟨?_, ?_⟩
    ·rintro ⟨a20, c21, a34, c35⟩ ρ σm hJ hoff hdep
     have e19 := hdep 14 rfl rfl 19 rfl
     obtain ⟨H, m⟩ := id hJ
     replace hc27 := (Hs.ro 2 rfl).hmd hx23 hi24 (k := 0) (by decide) hc27 m
     exact dp_v (v := (.string x22)) wn (rv_load1 Tryz.underlying9 rfl e19 hc27) rfl hJ
    refine ⟨?_, ?_⟩
    ·rintro ⟨a20, c21, a34, c35⟩ ρ σm hJ hoff hdep
     have e19 := hdep 14 rfl rfl 19 rfl
     obtain ⟨H, m⟩ := id hJ
     replace hc27 := (Hs.ro 2 rfl).hmd hx23 hi24 (k := 0) (by decide) hc27 m
     exact dp_v (v := (.string x22)) wn (rv_load1 Tryz.underlying9 rfl e19 hc27) rfl hJ
    trivial) ?_
  refine all_cons (by
    refine ⟨?_, ?_⟩
    ·rintro ⟨a20, c21, a34, c35⟩ ρ σm hJ hoff hdep
     have e20 : look 27 ρ 20 = (.string x22) := hdep 15 rfl rfl 20 rfl
     obtain ⟨H, m⟩ := id hJ
     refine dp_cx wn (cx_call hc30 (ent_f hc30.fn (by show [look 27 ρ 20] = _; rw [e20])) hn0 (H.sel' [4, 0, 1, 2, 3, 4] rfl rfl : Hp S0 σ0 _ ([_] ++ _))) ?_
     rintro _ σq ⟨_, ⟨rfl, rfl⟩, H2, m2⟩
     exact ⟨_, (a20, c21, a34, c35), rfl, rfl, ⟨H2.sel' [0, 1, 2, 3, 4] rfl rfl, m.comp0 (m2.mono (fun i h => by simp [cov, Ch.ro, Ch.gw] at h))⟩, stab [0, 1, 2, 3, 4, 5, 6, 7, 8, 9, 10, 11, 12, 13, 14, 15] (by kernel_rfl) ⟨rfl, rfl, rfl, rfl, rfl, rfl, rfl, rfl, rfl, rfl, rfl, rfl, rfl, rfl, rfl, rfl, trivial⟩⟩
    trivial) ?_
  refine ac rfl (by
    intro k; rintro ⟨a20, c21, a34, c35⟩ ρ σm hJ hoff hdep
    have e13 : look 27 ρ 13 = (I r8) := hdep 8 rfl rfl 13 rfl
    have e17 : look 27 ρ 17 = (Sl a20 r17 c21) := hdep 12 rfl rfl 17 rfl
    have e21 : look 27 ρ 21 = (I r28) := hdep 16 rfl rfl 21 rfl
    exact dp_v (v := (.agg #[(I r8), (Sl a20 r17 c21), (I r28)])) wn (rv_build (ps := [(0, (I r8)), (1, (Sl a20 r17 c21)), (2, (I r28))]) Tryz.underlying67 ti67 (bp67 Tryz.underlying67) (by show [(0, look 27 ρ 13), (1, look 27 ρ 17), (2, look 27 ρ 21)] = _; rw [e13, e17, e21]) (by kernel_rfl)) rfl hJ) ?_
  refine all_cons (by
    refine ⟨?_, ?_⟩
    ·rintro ⟨a20, c21, a34, c35⟩ ρ σm hJ hoff hdep
     have e9 : look 27 ρ 9 = (Sl Cj Af.1 Ck) := hdep 4 rfl rfl 9 rfl
     have e22 : look 27 ρ 22 = (.agg #[(I r8), (Sl a20 r17 c21), (I r28)]) := hdep 17 rfl rfl 22 rfl
     obtain ⟨H, m⟩ := id hJ
     refine dp_cx wn (cx_call (hc33 a20 c21) (ent_f (hc33 a20 c21).fn (by show [look 27 ρ 9, look 27 ρ 22] = _; rw [e9, e22])) hn0 (H.sel' [2, 0, 0, 1, 2, 3, 4] rfl rfl : Hp S0 σ0 _ ([_, _] ++ _))) ?_
     rintro _ σq ⟨_, ⟨a34x, c35x, rfl, rfl⟩, H2, m2⟩
     exact ⟨_, (a20, c21, a34x, c35x), rfl, rfl, ⟨H2.sel' [0, 1, 2, 3, 4, 5] rfl rfl, m.comp0 (m2.mono (fun i h => by simp [cov, Ch.ro] at h))⟩, stab [0, 1, 2, 3, 4, 5, 6, 7, 8, 9, 10, 11, 12, 13, 14, 15, 16, 17] (by kernel_rfl) ⟨rfl, rfl, rfl, rfl, rfl, rfl, rfl, rfl, rfl, rfl, rfl, rfl, rfl, rfl, rfl, rfl, rfl, rfl, trivial⟩⟩
    trivial) ?_
  refine ac rfl (by
    intro k; rintro ⟨a20, c21, a34, c35⟩ ρ σm hJ hoff hdep
    have e23 := hdep 18 rfl rfl 23 rfl
    exact dp_v (v := (Sl a34 r31.1 c35)) wn (rv_extract e23 rfl) rfl hJ) ?_
  refine ac rfl (by
    intro k; rintro ⟨a20, c21, a34, c35⟩ ρ σm hJ hoff hdep
    have e23 := hdep 18 rfl rfl 23 rfl
    exact dp_v (v := (B r31.2)) wn (rv_extract e23 rfl) rfl hJ) ?_
  exact all_nil
 ·rintro ⟨a20, c21, a34, c35⟩ ρ σ36 hJ hoff hrel
  have e0 := look_off (N := 27) (hoff 0 rfl) rfl
  have e5 := hrel 0 rfl 5 rfl
  have e24 := hrel 19 rfl 24 rfl
  have e25 := hrel 20 rfl 25 rfl
  obtain ⟨H, -⟩ := (show Hp S0 σ0 σ36 [Ch.own 0 0 (Sl a34 r31.1 c35) r31.1, Ch.ro 0 (Sl a20 r17 c21) r17, Ch.bx Cl Cm Cn [(Sl Cj Af.1 Ck), (I Af.2)] Cp Cq, Ch.ro 0 (Sl Cj Af.1 Ck) Af.1, Ch.ro 0 (Sl Dx Dw Dy) Dw, Ch.gw gw0] ∧ Md (fun i => (cov []) i ∨ (fun i => (cov [Ch.gw gw0]) i ∨ (fun b => blk (Sl a20 r17 c21) = some b) i) i) σ0 σ36 from hJ)
  clear hJ Hs
  rw [fr_lookL (L := [(0, (pt Cm Cn)), (5, (pt Cm Cn)), (24, (Sl a34 r31.1 c35)), (25, (B r31.2))]) ⟨e0, e5, e24, e25, trivial⟩]
  clear hoff hrel e0 e5 e24 e25
  obtain ⟨σ37, hw38, H, -⟩ := H.pub 0 rfl (Nat.le_refl _)
  rw [← hw38]; clear hw38
  revert h; refine br fun r39 hx40 h => ?_
  have hc41 := c_impl_session_become (Cl := Cl) (Cm := Cm) (Cn := Cn) (Cp := Cp) (Cq := Cq) (Cj := Cj) (Ck := Ck) (Du := a34) (Dv := c35) hx40
  refine st_call (cx_call hc41 (ent_f hc41.fn rfl) hn0 (H.sel' [2, 3, 0, 0, 1, 3, 4, 5] rfl rfl : Hp S0 σ0 _ ([_, _, _] ++ _))) wn ?_
  rintro _ σ44 ⟨_, ⟨a42, c43, rfl, rfl⟩, H, -⟩
  replace H : Hp _ _ _ [_, _, _, _, _, _, _] := H
  refine sa (.string r39.1) rfl (w_end (q_then (c_ret ?_)))
  obtain rfl := sj h
  exact fin_ret (v := (.string r39.1)) (results_ok Tryz.results24 (res_tmp (v := (.string r39.1)) rfl res_nil) rfl) ⟨a42, c43, rfl, rfl⟩ (H.sel' [0, 1] rfl rfl)

theorem c_slices_Delete_impl_Item_impl_Item {Af : List (Int × (List Int) × Int)} {Dm : Int} {Dz : Int} {Dj : Option Addr} {Dk : Nat} {r : (List (Int × (List Int) × Int))} (h : M.slices_Delete_impl_Item_impl_Item Af Dm Dz = some r) :
    Cal2 Tryz.prog 69 [(Sl Dj Af Dk), (I Dm), (I Dz)] [Ch.own 0 0 (Sl Dj Af Dk) Af] (fun n0 v L => ∃ (az1 : Option Addr), ∃ (cz2 : Nat), v = (Sl az1 r cz2) ∧ L = [Ch.own 0 0 (Sl az1 r cz2) r]) := by
 refine cal2 (n := 33) Tryz.func69 rfl rfl rfl rfl ?_
 intro S0 σ0 n0 hn0 H
 unfold M.slices_Delete_impl_Item_impl_Item at h
 refine c_seq (rg (sa (.slice none 0 0) rfl (w_end (q_then (c_seq (rg (sm (Sl Dj Af Dk) rfl (sm (I Dm) rfl (sm (I Dz) rfl (sm (Sl Dj Af Dk) rfl (st (v := (I (Af.length : Int))) (rv_len Tryz.underlying29 rfl) ?_)))))))))))
 revert h; refine br fun o1 hx2 h => ?_
 refine st (v := (.slice (if ((Af.length : Int)).toNat = (Dm).toNat then Dj else (Dj).map (·.add ((Dm).toNat * 3))) ((Dz).toNat - (Dm).toNat) (((Af.length : Int)).toNat - (Dm).toNat))) (rv_slice3 Tryz.underlying29 ti67 hx2 (H.own 0 rfl).cap rfl rfl rfl rfl) (w_end (q_then (c_seq (c_seq (rg (sm (I Dm) rfl (sm (I Dz) rfl (st (v := (B (Dm == Dz))) (rv_eql (a := Dm) (b := Dz) rfl rfl) (w_end (q_then ?_))))))))))
 refine cd_cond (Dm == Dz) rfl (fun hb3 => ?_) (fun hb3 => ?_)
 ·replace h := bif_t hb3 h
  refine c_seq (rg (sm (Sl Dj Af Dk) rfl (sa (Sl Dj Af Dk) rfl (w_end (q_then (c_ret (q_then_r ?_)))))))
  obtain rfl := sj h
  exact fin_ret (v := (Sl Dj Af Dk)) (results_ok Tryz.results69 (res_tmp (v := (Sl Dj Af Dk)) rfl res_nil) rfl) ⟨Dj, Dk, rfl, rfl⟩ (H.sel' [0] rfl rfl)
 ·replace h := bif_f hb3 h
  refine c_skip (q_then (c_seq (rg (sm (Sl Dj Af Dk) rfl (st (v := (I (Af.length : Int))) (rv_len Tryz.underlying29 rfl) (sa (I (Af.length : Int)) rfl (w_end (q_then (c_seq ?_)))))))))
  refine rgP (σ := σ0) 6 (by kernel_rfl) (by kernel_rfl) (by kernel_rfl) ?_
  refine sq (v := (Sl Dj Af Dk)) (rv_move rfl) (sq (v := (I Dm)) (rv_move rfl) ?_)
  revert h; refine br fun xs4 hx5 h => ?_
  obtain ⟨a6, c7, hs8, -⟩ := (H.own 0 rfl).slice hx5
  refine sq (v := (Sl a6 xs4 c7)) (rv_slice_h Tryz.underlying29 ti67 hs8 rfl rfl) (sq (v := (Sl Dj Af Dk)) (rv_move rfl) (sq (v := (I Dz)) (rv_move rfl) ?_))
  revert h; refine br fun xs10 hx11 h => ?_
  obtain ⟨a12, c13, hs14, -⟩ := (H.own 0 rfl).slice hx11
  refine sq (v := (Sl a12 xs10 c13)) (rv_slice_l Tryz.underlying29 ti67 hs14 rfl rfl) (sq_end ?_)
  intro σ16 hm17
  replace H := H.grow (hm17.mono fun _ h => h); clear hm17
  revert h; refine br fun xs18 hx19 h => ?_
  refine st_ex (ex_appV H (i := 0) rfl Tryz.underlying29 Tryz.underlying29 ti67 rfl rfl (by decide) hx5 hs8 ((H.own 0 rfl).view hx11 hs14).1.rd hx19 (Nat.zero_le _) rfl rfl) wn ?_
  rintro _ σ23 ⟨a20, c21, rfl, H, -, hf22⟩
  refine sa (Sl a20 xs18 c21) rfl (w_end (q_then (c_seq (rg (sm (Sl a20 xs18 c21) rfl (sm (Sl a20 xs18 c21) rfl (st (v := (I (xs18.length : Int))) (rv_len Tryz.underlying29 rfl) (sm (I (Af.length : Int)) rfl ?_))))))))
  have hd30 := del_room hx5 hx11 (gthree_some hx2).2.1 hx19 hs8 hf22
  refine st (v := (.slice (if c21 = xs18.length then a20 else (a20).map (·.add (xs18.length * 3))) (Af.length - xs18.length) (c21 - xs18.length))) (rv_sliceX (m0 := xs18.length) (k0 := Af.length) Tryz.underlying29 ti67 hd30.1 hd30.2 rfl rfl rfl) ?_
  refine st_ex0 (ex_clearX (k0 := Af.length) H (i := 0) rfl Tryz.underlying29 ti67 rfl rfl (by simp [plain, Value.cells]) hd30.1 hd30.2 rfl) wn ?_
  rintro _ σ31 ⟨rfl, H, -⟩
  refine w_end (q_then (c_seq (rg (sm (Sl a20 xs18 c21) rfl (sa (Sl a20 xs18 c21) rfl (w_end (q_then (c_ret ?_))))))))
  obtain rfl := sj h
  exact fin_ret (v := (Sl a20 xs18 c21)) (results_ok Tryz.results69 (res_tmp (v := (Sl a20 xs18 c21)) rfl res_nil) rfl) ⟨a20, c21, rfl, rfl⟩ (H.sel' [0] rfl rfl)

theorem c_impl_DropItem {Ak : List (Int × (List Int) × Int)} {Bb : Int} {Am : Option Addr} {Ao : Nat} {r : (List (Int × (List Int) × Int)) × Bool} (h : M.impl_DropItem Ak Bb = some r) :
    Cal2 Tryz.prog 45 [(Sl Am Ak Ao), (I Bb)] [Ch.ro 0 (Sl Am Ak Ao) Ak] (fun n0 v L => ∃ (az1 : Option Addr), ∃ (cz2 : Nat), v = (.tuple #[(Sl az1 r.1 cz2), (B r.2)]) ∧ L = [Ch.own 0 0 (Sl az1 r.1 cz2) r.1]) := by
 refine cal2 (n := 25) Tryz.func45 rfl rfl rfl rfl ?_
 intro S0 σ0 n0 hn0 H
 unfold M.impl_DropItem at h
 refine c_seq (rg (sa (.slice none 0 0) rfl (sa (B false) rfl (w_end (q_then (c_seq (c_seq (rg (sm (Sl Am Ak Ao) rfl ?_)))))))))
 revert h; refine br fun r1 hx2 h => ?_
 have hc3 := c_impl_ValidStore (Am := Am) (Ao := Ao) hx2
 refine st_call (cx_call hc3 (ent_f hc3.fn rfl) hn0 (H.sel' [0, 0] rfl rfl : Hp S0 σ0 _ ([_] ++ _))) wn ?_
 rintro _ σ4 ⟨_, ⟨rfl, rfl⟩, H, -⟩
 replace H : Hp _ _ _ [_] := H
 refine st (v := (B (!r1))) (rv_not rfl) (w_end (q_then ?_))
 refine cd_cond (!r1) rfl (fun hb5 => ?_) (fun hb5 => ?_)
 ·replace h := bif_t hb5 h
  refine c_seq (rg (sa (.slice none 0 0) rfl (sa (B false) rfl (w_end (q_then (c_ret (q_then_r ?_)))))))
  replace H := H.nilOwn (Int × (List Int) × Int) 0 0
  obtain rfl := sj h
  exact fin_ret (v := (.tuple #[(.slice none 0 0), (B false)])) (results_ok Tryz.results45 (res_tmp (v := (.slice none 0 0)) rfl (res_tmp (v := (B false)) rfl res_nil)) rfl) ⟨none, 0, rfl, rfl⟩ (H.sel' [0] rfl rfl)
 ·replace h := bif_f hb5 h
  refine c_skip (q_then (c_seq (rg (sm (Sl Am Ak Ao) rfl (sm (I Bb) rfl ?_)))))
  revert h; refine br fun r6 hx7 h => ?_
  have hc8 := c_impl_placeOf (Am := Am) (Ao := Ao) hx7
  refine st_call (cx_call hc8 (ent_f hc8.fn rfl) hn0 (H.sel' [0, 0] rfl rfl : Hp S0 σ0 _ ([_] ++ _))) wn ?_
  rintro _ σ9 ⟨_, ⟨rfl, rfl⟩, H, -⟩
  replace H : Hp _ _ _ [_] := H
  refine sm (.tuple #[(I r6.1), (B r6.2)]) rfl (st (v := (I r6.1)) (rv_extract rfl rfl) (st (v := (B r6.2)) (rv_extract rfl rfl) (sa (I r6.1) rfl (sa (B r6.2) rfl (w_end (q_then (c_seq (c_seq (rg (sm (B r6.2) rfl (st (v := (B (!r6.2))) (rv_not rfl) ?_)))))))))))
  refine w_end (q_then ?_)
  refine cd_cond (!r6.2) rfl (fun hb10 => ?_) (fun hb10 => ?_)
  ·replace h := bif_t hb10 h
   refine c_seq (rg (sa (.slice none 0 0) rfl (sa (B false) rfl (w_end (q_then (c_ret (q_then_r ?_)))))))
   replace H := H.nilOwn (Int × (List Int) × Int) 0 0
   obtain rfl := sj h
   exact fin_ret (v := (.tuple #[(.slice none 0 0), (B false)])) (results_ok Tryz.results45 (res_tmp (v := (.slice none 0 0)) rfl (res_tmp (v := (B false)) rfl res_nil)) rfl) ⟨none, 0, rfl, rfl⟩ (H.sel' [0] rfl rfl)
  ·replace h := bif_f hb10 h
   refine c_skip (q_then (c_seq (rg (sm (Sl Am Ak Ao) rfl ?_))))
   revert h; refine br fun r11 hx12 h => ?_
   have hc13 := c_impl_copyItems (Am := Am) (Ao := Ao) hx12
   refine st_call (cx_call hc13 (ent_f hc13.fn rfl) hn0 (H.sel' [0, 0] rfl rfl : Hp S0 σ0 _ ([_] ++ _))) wn ?_
   rintro _ σ17 ⟨_, ⟨a14, c15, rfl, rfl, ht16⟩, H, -⟩
   replace H : Hp _ _ _ [_, _] := H
   refine sm (I r6.1) rfl (sm (I r6.1) rfl (st (v := (I (w64 (r6.1 + 1)))) (rv_add (a := r6.1) (b := 1) rfl rfl) ?_))
   replace H := H.ownLow 0 0 0 rfl (Nat.zero_le _) (Nat.zero_le _)
   revert h; refine br fun r18 hx19 h => ?_
   have hc20 := c_slices_Delete_impl_Item_impl_Item (Dj := a14) (Dk := c15) hx19
   refine st_call (cx_call hc20 (ent_f hc20.fn rfl) hn0 (H.sel' [0, 1] rfl rfl : Hp S0 σ0 _ ([_] ++ _))) wn ?_
   rintro _ σ23 ⟨_, ⟨a21, c22, rfl, rfl⟩, H, -⟩
   replace H : Hp _ _ _ [_, _] := H
   refine sa (Sl a21 r18 c22) rfl (sa (B true) rfl (w_end (q_then (c_ret ?_))))
   obtain rfl := sj h
   exact fin_ret (v := (.tuple #[(Sl a21 r18 c22), (B true)])) (results_ok Tryz.results45 (res_tmp (v := (Sl a21 r18 c22)) rfl (res_tmp (v := (B true)) rfl res_nil)) rfl) ⟨a21, c22, rfl, rfl⟩ (H.sel' [0] rfl rfl)

theorem c_impl_session_drop {Af : (List (Int × (List Int) × Int)) × Int} {Dw : List ByteArray} {Cj : Option Addr} {Ck : Nat} {Cl Cm Cn : Nat} {Cp Cq : List Value} {Dx : Option Addr} {Dy : Nat} {r : ByteArray × ((List (Int × (List Int) × Int)) × Int)} (h : M.impl_session_drop Af Dw = some r) :
    Cal2 Tryz.prog 25 [(pt Cm Cn), (Sl Dx Dw Dy)] [Ch.bx Cl Cm Cn [(Sl Cj Af.1 Ck), (I Af.2)] Cp Cq, Ch.ro 0 (Sl Cj Af.1 Ck) Af.1, Ch.ro 0 (Sl Dx Dw Dy) Dw, Ch.gw gw0] (fun n0 v L => ∃ (az1 : Option Addr), ∃ (cz2 : Nat), v = (.string r.1) ∧ L = [Ch.bx Cl Cm Cn [(Sl az1 r.2.1 cz2), (I r.2.2)] Cp Cq, Ch.ro 0 (Sl az1 r.2.1 cz2) r.2.1]) := by
 refine cal2 (n := 18) Tryz.func25 rfl rfl rfl rfl ?_
 intro S0 σ0 n0 hn0 H
 unfold M.impl_session_drop at h
 refine c_seq (rg (sa (.string (ByteArray.mk #[])) rfl (w_end (q_then (c_seq ?_)))))
 have hc1 := H.cell (u := (Sl Cj Af.1 Ck)) (o' := Cn) 0 0 rfl rfl rfl
 revert h; refine br fun x2 hx3 h => ?_
 obtain ⟨b5, o6, hi4, -⟩ := (H.ro 2 rfl).ix hx3
 have hc7 := ((H.ro 2 rfl).at hx3 hi4).str
 revert h; refine br fun r8 hx9 h => ?_
 have hc10 := c_impl_readNumber hx9
 revert h; refine br fun r11 hx12 h => ?_
 have hc13 := c_impl_DropItem (Am := Cj) (Ao := Ck) hx12
 have Hs := H
 refine rg2 (σ := σ0) (Nm := (Option Addr) × (Nat)) 12 [8, 9] [[false, false], [true, false], [true, true]] [[(0, 0), (1, 1), (2, 2)], [(0, 0), (1, 1)], [(0, 0), (1, 1)], [(0, 0), (1, 1)], [(0, 0), (1, 1)], [(0, 0)], [(0, 0)], [(0, 0)], [(0, 1)], [(1, 2)], [(2, 2)], [(2, 2)]] 2 [fun ((a14, c15) : (Option Addr) × (Nat)) => fun σm => Hp S0 σ0 σm [Ch.bx Cl Cm Cn [(Sl Cj Af.1 Ck), (I Af.2)] Cp Cq, Ch.ro 0 (Sl Cj Af.1 Ck) Af.1, Ch.ro 0 (Sl Dx Dw Dy) Dw, Ch.gw gw0] ∧ Md (cov []) σ0 σm, fun ((a14, c15) : (Option Addr) × (Nat)) => fun σm => Hp S0 σ0 σm [Ch.bx Cl Cm Cn [(Sl Cj Af.1 Ck), (I Af.2)] Cp Cq, Ch.ro 0 (Sl Cj Af.1 Ck) Af.1, Ch.ro 0 (Sl Dx Dw Dy) Dw, Ch.gw gw0] ∧ Md (cov []) σ0 σm, fun ((a14, c15) : (Option Addr) × (Nat)) => fun σm => Hp S0 σ0 σm [Ch.own 0 0 (Sl a14 r11.1 c15) r11.1, Ch.bx Cl Cm Cn [(Sl Cj Af.1 Ck), (I Af.2)] Cp Cq, Ch.ro 0 (Sl Cj Af.1 Ck) Af.1, Ch.ro 0 (Sl Dx Dw Dy) Dw, Ch.gw gw0] ∧ Md (cov []) σ0 σm] [fun ((a14, c15) : (Option Addr) × (Nat)) => (pt Cm Cn), fun ((a14, c15) : (Option Addr) × (Nat)) => (pt Cm Cn), fun ((a14, c15) : (Option Addr) × (Nat)) => (pt Cm Cn), fun ((a14, c15) : (Option Addr) × (Nat)) => (pt Cm Cn), fun ((a14, c15) : (Option Addr) × (Nat)) => (Sl Cj Af.1 Ck), fun ((a14, c15) : (Option Addr) × (Nat)) => (Sl Dx Dw Dy), fun ((a14, c15) : (Option Addr) × (Nat)) => (pt b5 o6), fun ((a14, c15) : (Option Addr) × (Nat)) => (.string x2), fun ((a14, c15) : (Option Addr) × (Nat)) => (I r8), fun ((a14, c15) : (Option Addr) × (Nat)) => (.tuple #[(Sl a14 r11.1 c15), (B r11.2)]), fun ((a14, c15) : (Option Addr) × (Nat)) => (Sl a14 r11.1 c15), fun ((a14, c15) : (Option Addr) × (Nat)) => (B r11.2)] (none, 0) (by kernel_rfl) (by kernel_rfl) ?_ ?_ ?_
 ·intro σm m0
  exact ⟨H.grow (m0.mono fun _ h => h.elim), m0⟩
 ·refine ac rfl (by
    intro k; rintro ⟨a14, c15⟩ ρ σm hJ hoff hdep
    have e0 := look_off (N := 18) (hoff 0 rfl) rfl
    exact dp_v (v := (pt Cm Cn)) wn (rv_move e0) rfl hJ) ?_
  refine ac rfl (by
    intro k; rintro ⟨a14, c15⟩ ρ σm hJ hoff hdep
    have e0 := look_off (N := 18) (hoff 0 rfl) rfl
    exact dp_v (v := (pt Cm Cn)) wn (rv_move e0) rfl hJ) ?_
  refine ac rfl (by
    intro k; rintro ⟨a14, c15⟩ ρ σm hJ hoff hdep
    have e6 := hdep 1 rfl rfl 6 rfl
    exact dp_v (v := (pt Cm Cn)) wn (rv_nilCheck e6) rfl hJ) ?_
  refine ac rfl (by
    intro k; rintro ⟨a14, c15⟩ ρ σm hJ hoff hdep
    have e7 := hdep 2 rfl rfl 7 rfl
    exact dp_v (v := (pt Cm Cn)) wn (rv_fieldAddr (off := 0) (ft := 29) Tryz.underlying34 rfl ti29 rfl e7) rfl hJ) ?_
  refine all_cons (by
    refine ⟨?_, ?_⟩
    ·rintro ⟨a14, c15⟩ ρ σm hJ hoff hdep
     have e8 := hdep 3 rfl rfl 8 rfl
     obtain ⟨H, m⟩ := id hJ
     have hc1 := H.cell (u := (Sl Cj Af.1 Ck)) (o' := Cn) 0 0 rfl rfl rfl
     exact dp_v (v := (Sl Cj Af.1 Ck)) wn (rv_load1 Tryz.underlying29 rfl e8 hc1) rfl hJ
    refine ⟨?_, ?_⟩
    ·rintro ⟨a14, c15⟩ ρ σm hJ hoff hdep
     have e8 := hdep 3 rfl rfl 8 rfl
     obtain ⟨H, m⟩ := id hJ
     have hc1 := H.cell (u := (Sl Cj Af.1 Ck)) (o' := Cn) 0 0 rfl rfl rfl
     exact dp_v (v := (Sl Cj Af.1 Ck)) wn (rv_load1 Tryz.underlying29 rfl e8 hc1) rfl hJ
    trivial) ?_
  refine ac rfl (by
    intro k; rintro ⟨a14, c15⟩ ρ σm hJ hoff hdep
    have e1 := look_off (N := 18) (hoff 1 rfl) rfl
    exact dp_v (v := (Sl Dx Dw Dy)) wn (rv_move e1) rfl hJ) ?_
  refine ac rfl (by
    intro k; rintro ⟨a14, c15⟩ ρ σm hJ hoff hdep
    have e10 := hdep 5 rfl rfl 10 rfl
    exact dp_v (v := (pt b5 o6)) wn (rv_ix Tryz.underlying22 ti9 e10 rfl hi4) rfl hJ) ?_
  refine all_cons (by
    refine ⟨?_, ?_⟩
    ·rintro ⟨a14, c15⟩ ρ σm hJ hoff hdep
     have e11 := hdep 6 rfl rfl 11 rfl
     obtain ⟨H, m⟩ := id hJ
     replace hc7 := (Hs.ro 2 rfl).hmd hx3 hi4 (k := 0) (by decide) hc7 m
     exact dp_v (v := (.string x2)) wn (rv_load1 Tryz.underlying9 rfl e11 hc7) rfl hJ
    trivial) ?_
  refine all_cons (by
    refine ⟨?_, ?_⟩
    ·rintro ⟨a14, c15⟩ ρ σm hJ hoff hdep
     have e12 : look 18 ρ 12 = (.string x2) := hdep 7 rfl rfl 12 rfl
     obtain ⟨H, m⟩ := id hJ
     refine dp_cx wn (cx_call hc10 (ent_f hc10.fn (by show [look 18 ρ 12] = _; rw [e12])) hn0 (H.sel' [3, 0, 1, 2, 3] rfl rfl : Hp S0 σ0 _ ([_] ++ _))) ?_
     rintro _ σq ⟨_, ⟨rfl, rfl⟩, H2, m2⟩
     exact ⟨_, (a14, c15), rfl, rfl, ⟨H2.sel' [0, 1, 2, 3] rfl rfl, m.comp0 (m2.mono (fun i h => by simp [cov, Ch.ro, Ch.gw] at h))⟩, stab [0, 1, 2, 3, 4, 5, 6, 7] (by kernel_rfl) ⟨rfl, rfl, rfl, rfl, rfl, rfl, rfl, rfl, trivial⟩⟩
    trivial) ?_
  refine all_cons (by
    refine ⟨?_, ?_⟩
    ·rintro ⟨a14, c15⟩ ρ σm hJ hoff hdep
     have e9 : look 18 ρ 9 = (Sl Cj Af.1 Ck) := hdep 4 rfl rfl 9 rfl
     have e13 : look 18 ρ 13 = (I r8) := hdep 8 rfl rfl 13 rfl
     obtain ⟨H, m⟩ := id hJ
     refine dp_cx wn (cx_call hc13 (ent_f hc13.fn (by show [look 18 ρ 9, look 18 ρ 13] = _; rw [e9, e13])) hn0 (H.sel' [1, 0, 1, 2, 3] rfl rfl : Hp S0 σ0 _ ([_] ++ _))) ?_
     rintro _ σq ⟨_, ⟨a14x, c15x, rfl, rfl⟩, H2, m2⟩
     exact ⟨_, (a14x, c15x), rfl, rfl, ⟨H2.sel' [0, 1, 2, 3, 4] rfl rfl, m.comp0 (m2.mono (fun i h => by simp [cov, Ch.ro] at h))⟩, stab [0, 1, 2, 3, 4, 5, 6, 7, 8] (by kernel_rfl) ⟨rfl, rfl, rfl, rfl, rfl, rfl, rfl, rfl, rfl, trivial⟩⟩
    trivial) ?_
  refine ac rfl (by
    intro k; rintro ⟨a14, c15⟩ ρ σm hJ hoff hdep
    have e14 := hdep 9 rfl rfl 14 rfl
    exact dp_v (v := (Sl a14 r11.1 c15)) wn (rv_extract e14 rfl) rfl hJ) ?_
  refine ac rfl (by
    intro k; rintro ⟨a14, c15⟩ ρ σm hJ hoff hdep
    have e14 := hdep 9 rfl rfl 14 rfl
    exact dp_v (v := (B r11.2)) wn (rv_extract e14 rfl) rfl hJ) ?_
  exact all_nil
 ·rintro ⟨a14, c15⟩ ρ σ16 hJ hoff hrel
  have e0 := look_off (N := 18) (hoff 0 rfl) rfl
  have e5 := hrel 0 rfl 5 rfl
  have e15 := hrel 10 rfl 15 rfl
  have e16 := hrel 11 rfl 16 rfl
  obtain ⟨H, -⟩ := (show Hp S0 σ0 σ16 [Ch.own 0 0 (Sl a14 r11.1 c15) r11.1, Ch.bx Cl Cm Cn [(Sl Cj Af.1 Ck), (I Af.2)] Cp Cq, Ch.ro 0 (Sl Cj Af.1 Ck) Af.1, Ch.ro 0 (Sl Dx Dw Dy) Dw, Ch.gw gw0] ∧ Md (cov []) σ0 σ16 from hJ)
  clear hJ Hs
  rw [fr_lookL (L := [(0, (pt Cm Cn)), (5, (pt Cm Cn)), (15, (Sl a14 r11.1 c15)), (16, (B r11.2))]) ⟨e0, e5, e15, e16, trivial⟩]
  clear hoff hrel e0 e5 e15 e16
  obtain ⟨σ17, hw18, H, -⟩ := H.pub 0 rfl (Nat.le_refl _)
  rw [← hw18]; clear hw18
  revert h; refine br fun r19 hx20 h => ?_
  have hc21 := c_impl_session_become (Cl := Cl) (Cm := Cm) (Cn := Cn) (Cp := Cp) (Cq := Cq) (Cj := Cj) (Ck := Ck) (Du := a14) (Dv := c15) hx20
  refine st_call (cx_call hc21 (ent_f hc21.fn rfl) hn0 (H.sel' [1, 2, 0, 0, 2, 3, 4] rfl rfl : Hp S0 σ0 _ ([_, _, _] ++ _))) wn ?_
  rintro _ σ24 ⟨_, ⟨a22, c23, rfl, rfl⟩, H, -⟩
  replace H : Hp _ _ _ [_, _, _, _, _, _] := H
  refine sa (.string r19.1) rfl (w_end (q_then (c_ret ?_)))
  obtain rfl := sj h
  exact fin_ret (v := (.string r19.1)) (results_ok Tryz.results25 (res_tmp (v := (.string r19.1)) rfl res_nil) rfl) ⟨a22, c23, rfl, rfl⟩ (H.sel' [0, 1] rfl rfl)

theorem c_impl_validKind {Bo : Int}  {r : Bool} (h : M.impl_validKind Bo = some r) :
    Cal2 Tryz.prog 50 [(I Bo)] [] (fun n0 v L => v = (B r) ∧ L = []) := by
 refine cal2 (n := 9) Tryz.func50 rfl rfl rfl rfl ?_
 intro S0 σ0 n0 hn0 H
 unfold M.impl_validKind at h
 refine c_seq (rg (sa (B false) rfl (w_end (q_then (c_seq (rg (sm (I Bo) rfl (st (v := (B (decide (1 ≤ Bo)))) (rv_geq (a := Bo) (b := 1) rfl rfl) (sm (B (decide (1 ≤ Bo))) rfl ?_)))))))))
 rcases Bool.eq_false_or_eq_true (decide (1 ≤ Bo)) with hb1 | hb1
 ·replace h := bif_t hb1 h
  refine st_g (v := (I Bo)) (congrArg some hb1) (rv_move rfl) (st_g (v := (B (decide (Bo ≤ 4)))) (congrArg some hb1) (rv_leq (a := Bo) (b := 4) rfl rfl) (st (v := (B (decide (Bo ≤ 4)))) (rv_pick_t (congrArg B hb1) rfl) (sa (B (decide (Bo ≤ 4))) rfl (w_end (q_then (c_ret ?_))))))
  obtain rfl := sj h
  exact fin_ret (v := (B (decide (Bo ≤ 4)))) (results_ok Tryz.results50 (res_tmp (v := (B (decide (Bo ≤ 4)))) rfl res_nil) rfl) ⟨rfl, rfl⟩ (H.sel' [] rfl rfl)
 ·replace h := bif_f hb1 h
  refine st_skip (congrArg some hb1) (st_skip (congrArg some hb1) (st (v := (B false)) (rv_pick_f (congrArg B hb1) rfl) (sa (B false) rfl (w_end (q_then (c_ret ?_))))))
  obtain rfl := sj h
  exact fin_ret (v := (B false)) (results_ok Tryz.results50 (res_tmp (v := (B false)) rfl res_nil) rfl) ⟨rfl, rfl⟩ (H.sel' [] rfl rfl)

theorem c_impl_validCount {Ea : Int}  {r : Bool} (h : M.impl_validCount Ea = some r) :
    Cal2 Tryz.prog 71 [(I Ea)] [] (fun n0 v L => v = (B r) ∧ L = []) := by
 refine cal2 (n := 9) Tryz.func71 rfl rfl rfl rfl ?_
 intro S0 σ0 n0 hn0 H
 unfold M.impl_validCount at h
 refine c_seq (rg (sa (B false) rfl (w_end (q_then (c_seq (rg (sm (I Ea) rfl (st (v := (B (decide (1 ≤ Ea)))) (rv_geq (a := Ea) (b := 1) rfl rfl) (sm (B (decide (1 ≤ Ea))) rfl ?_)))))))))
 rcases Bool.eq_false_or_eq_true (decide (1 ≤ Ea)) with hb1 | hb1
 ·replace h := bif_t hb1 h
  refine st_g (v := (I Ea)) (congrArg some hb1) (rv_move rfl) (st_g (v := (B (decide (Ea ≤ 16)))) (congrArg some hb1) (rv_leq (a := Ea) (b := 16) rfl rfl) (st (v := (B (decide (Ea ≤ 16)))) (rv_pick_t (congrArg B hb1) rfl) (sa (B (decide (Ea ≤ 16))) rfl (w_end (q_then (c_ret ?_))))))
  obtain rfl := sj h
  exact fin_ret (v := (B (decide (Ea ≤ 16)))) (results_ok Tryz.results71 (res_tmp (v := (B (decide (Ea ≤ 16)))) rfl res_nil) rfl) ⟨rfl, rfl⟩ (H.sel' [] rfl rfl)
 ·replace h := bif_f hb1 h
  refine st_skip (congrArg some hb1) (st_skip (congrArg some hb1) (st (v := (B false)) (rv_pick_f (congrArg B hb1) rfl) (sa (B false) rfl (w_end (q_then (c_ret ?_))))))
  obtain rfl := sj h
  exact fin_ret (v := (B false)) (results_ok Tryz.results71 (res_tmp (v := (B false)) rfl res_nil) rfl) ⟨rfl, rfl⟩ (H.sel' [] rfl rfl)

theorem c_impl_validSearch {Ak : List (Int × (List Int) × Int)} {Bz : Int} {Bc : List Int} {Ca : Int} {Am : Option Addr} {Ao : Nat} {Bl : Option Addr} {Bm : Nat} {r : Bool} (h : M.impl_validSearch Ak Bz Bc Ca = some r) :
    Cal2 Tryz.prog 46 [(Sl Am Ak Ao), (I Bz), (Sl Bl Bc Bm), (I Ca)] [Ch.ro 0 (Sl Am Ak Ao) Ak, Ch.ro 0 (Sl Bl Bc Bm) Bc] (fun n0 v L => v = (B r) ∧ L = []) := by
 refine cal2 (n := 23) Tryz.func46 rfl rfl rfl rfl ?_
 intro S0 σ0 n0 hn0 H
 unfold M.impl_validSearch at h
 refine c_seq (rg (sa (B false) rfl (w_end (q_then (c_seq (rg (sm (Sl Am Ak Ao) rfl ?_)))))))
 revert h; refine br fun r1 hx2 h => ?_
 have hc3 := c_impl_ValidStore (Am := Am) (Ao := Ao) hx2
 refine st_call (cx_call hc3 (ent_f hc3.fn rfl) hn0 (H.sel' [0, 0, 1] rfl rfl : Hp S0 σ0 _ ([_] ++ _))) wn ?_
 rintro _ σ4 ⟨_, ⟨rfl, rfl⟩, H, -⟩
 replace H : Hp _ _ _ [_, _] := H
 refine sm (B r1) rfl ?_
 rcases Bool.eq_false_or_eq_true r1 with hb5 | hb5
 ·replace h := bif_t hb5 h
  refine st_g (v := (I Bz)) (congrArg some hb5) (rv_move rfl) ?_
  revert h; refine br fun r6 hx7 h => ?_
  have hc8 := c_impl_validKind hx7
  refine st_call (cx_call hc8 (ent_f hc8.fn rfl) hn0 (H.sel' [0, 1] rfl rfl : Hp S0 σ0 _ ([] ++ _))) (wanted_yes rfl (by exact (congrArg some hb5))) ?_
  rintro _ σ9 ⟨_, ⟨rfl, rfl⟩, H, -⟩
  replace H : Hp _ _ _ [_, _] := H
  refine st (v := (B r6)) (rv_pick_t (congrArg B hb5) rfl) (sm (B r6) rfl ?_)
  rcases Bool.eq_false_or_eq_true r6 with hb10 | hb10
  ·replace h := bif_t hb10 h
   refine st_g (v := (Sl Bl Bc Bm)) (congrArg some hb10) (rv_move rfl) ?_
   revert h; refine br fun r11 hx12 h => ?_
   have hc13 := c_impl_ValidVector (Aq := Bl) (Ar := Bm) hx12
   refine st_call (cx_call hc13 (ent_f hc13.fn rfl) hn0 (H.sel' [1, 0, 1] rfl rfl : Hp S0 σ0 _ ([_] ++ _))) (wanted_yes rfl (by exact (congrArg some hb10))) ?_
   rintro _ σ14 ⟨_, ⟨rfl, rfl⟩, H, -⟩
   replace H : Hp _ _ _ [_, _] := H
   refine st (v := (B r11)) (rv_pick_t (congrArg B hb10) rfl) (sm (B r11) rfl ?_)
   rcases Bool.eq_false_or_eq_true r11 with hb15 | hb15
   ·replace h := bif_t hb15 h
    refine st_g (v := (I Ca)) (congrArg some hb15) (rv_move rfl) ?_
    revert h; refine br fun r16 hx17 h => ?_
    have hc18 := c_impl_validCount hx17
    refine st_call (cx_call hc18 (ent_f hc18.fn rfl) hn0 (H.sel' [0, 1] rfl rfl : Hp S0 σ0 _ ([] ++ _))) (wanted_yes rfl (by exact (congrArg some hb15))) ?_
    rintro _ σ19 ⟨_, ⟨rfl, rfl⟩, H, -⟩
    replace H : Hp _ _ _ [_, _] := H
    refine st (v := (B r16)) (rv_pick_t (congrArg B hb15) rfl) (sa (B r16) rfl (w_end (q_then (c_ret ?_))))
    obtain rfl := sj h
    exact fin_ret (v := (B r16)) (results_ok Tryz.results46 (res_tmp (v := (B r16)) rfl res_nil) rfl) ⟨rfl, rfl⟩ (H.sel' [] rfl rfl)
   ·replace h := bif_f hb15 h
    refine st_skip (congrArg some hb15) (st_skip (congrArg some hb15) (st (v := (B false)) (rv_pick_f (congrArg B hb15) rfl) (sa (B false) rfl (w_end (q_then (c_ret ?_))))))
    obtain rfl := sj h
    exact fin_ret (v := (B false)) (results_ok Tryz.results46 (res_tmp (v := (B false)) rfl res_nil) rfl) ⟨rfl, rfl⟩ (H.sel' [] rfl rfl)
  ·replace h := bif_f hb10 h
   refine st_skip (congrArg some hb10) (st_skip (congrArg some hb10) (st (v := (B false)) (rv_pick_f (congrArg B hb10) rfl) (sm (B false) rfl (st_skip rfl (st_skip rfl (st (v := (B false)) (rv_pick_f rfl rfl) (sa (B false) rfl (w_end (q_then (c_ret ?_))))))))))
   obtain rfl := sj h
   exact fin_ret (v := (B false)) (results_ok Tryz.results46 (res_tmp (v := (B false)) rfl res_nil) rfl) ⟨rfl, rfl⟩ (H.sel' [] rfl rfl)
 ·replace h := bif_f hb5 h
  refine st_skip (congrArg some hb5) (st_skip (congrArg some hb5) (st (v := (B false)) (rv_pick_f (congrArg B hb5) rfl) (sm (B false) rfl (st_skip rfl (st_skip rfl (st (v := (B false)) (rv_pick_f rfl rfl) (sm (B false) rfl (st_skip rfl (st_skip rfl (st (v := (B false)) (rv_pick_f rfl rfl) (sa (B false) rfl ?_)))))))))))
  refine w_end (q_then (c_ret ?_))
  obtain rfl := sj h
  exact fin_ret (v := (B false)) (results_ok Tryz.results46 (res_tmp (v := (B false)) rfl res_nil) rfl) ⟨rfl, rfl⟩ (H.sel' [] rfl rfl)

theorem c_impl_gapsOf {Aa : List Int} {Bv : List Int} (Eb : Aa.length = 4) (Ec : Bv.length = 4) {r : (List Int)} (h : M.impl_gapsOf Aa Bv = some r) :
    Cal2 Tryz.prog 96 [(.agg (List.map I Aa).toArray), (.agg (List.map I Bv).toArray)] [] (fun n0 v L => v = (.agg (List.map I r).toArray) ∧ L = [] ∧ r.length = 4) := by
 refine cal2 (n := 29) Tryz.func96 rfl rfl rfl rfl ?_
 intro S0 σ0 n0 hn0 H
 unfold M.impl_gapsOf at h
 refine c_seq (rg (st_ex (ex_box (cs := (List.map I Aa)) H hn0 rfl rfl) wn ?_))
 rintro _ σ2 ⟨b1, rfl, H, -⟩
 refine st_ex (ex_box (cs := (List.map I Bv)) H hn0 rfl rfl) wn ?_
 rintro _ σ4 ⟨b3, rfl, H, -⟩
 refine st_ex (ex_alloc (cs := (List.map I (List.replicate 4 0))) H hn0 ti113 rfl) wn ?_
 rintro _ σ6 ⟨b5, rfl, H, -⟩
 refine w_end (q_then (c_seq (rg (st_ex (ex_alloc (cs := (List.map I (List.replicate 4 0))) H hn0 ti113 rfl) wn ?_))))
 rintro _ σ8 ⟨b7, rfl, H, -⟩
 refine w_end (q_then (c_seq (c_seq (rg (sm (I 0) rfl (w_end (q_then ?_)))))))
 obtain ⟨o9, hj, h'⟩ := bind_some h
 clear h
 refine c_cut (fun e a w => e = .normal ∧ ∃ (ρ : Nat → Value) (σ : St), a = fr 29 (updL ρ [(4, (pt b5 0)), (5, (pt b7 0))]) ∧ w = σ.w ∧ Hp S0 σ0 σ [Ch.bx n0 b7 0 (List.map I o9) [] [], Ch.bx n0 b5 0 (List.map I (List.replicate 4 0)) [] []] ∧ o9.length = 4) ?_ ?_
 ·clear h'
  rename _ = some o9 => h
  refine c_blk (wp_loopM _ h (fun s10 a w => ∃ (ρ : Nat → Value) (σ : St), a = fr 29 (updL ρ [(2, (pt b1 0)), (3, (pt b3 0)), (4, (pt b5 0)), (5, (pt b7 0)), (7, (I s10.2))]) ∧ w = σ.w ∧ Hp S0 σ0 σ [Ch.bx n0 b7 0 (List.map I s10.1) [] [], Ch.bx n0 b1 0 (List.map I Aa) [] [], Ch.bx n0 b3 0 (List.map I Bv) [] [], Ch.bx n0 b5 0 (List.map I (List.replicate 4 0)) [] []] ∧ s10.1.length = 4) ⟨_, σ8, fr_join ⟨rfl, rfl, rfl, rfl, rfl, trivial⟩, rfl, H.sel' [0, 3, 2, 1] rfl rfl, rfl⟩ ?_)
  clear h H
  rintro s10 a w o ⟨ρ, σ11, rfl, rfl, H, hl12⟩ h hres
  refine c_seq (rg (st (v := (B (decide (s10.2 < 4)))) (rv_lss (a := s10.2) (b := 4) rfl rfl) (w_end (q_then (c_seq ?_)))))
  refine cd_cond (decide (s10.2 < 4)) rfl (fun hb13 => ?_) (fun hb13 => ?_)
  ·replace h := bif_t hb13 h
   refine c_skip (q_then (c_seq (c_blk (c_seq (rg (sm (I s10.2) rfl (sa (I s10.2) rfl (w_end (q_then ?_)))))))))
   refine rgP (σ := σ11) 16 (by kernel_rfl) (by kernel_rfl) (by kernel_rfl) ?_
   refine sq (v := (I s10.2)) (rv_move rfl) (sq (v := (I s10.2)) (rv_move rfl) ?_)
   revert h; refine br fun x14 hx15 h => ?_
   have hl16 := gidx_lt hx15 Eb
   refine sq (v := (pt b1 (0 + s10.2.toNat * 1))) (rv_indexAddr_array Tryz.underlying113 ti3 rfl rfl hl16.1 hl16.2) ?_
   have hc17 := Hp.arrCell H 1 rfl hx15
   refine sq (v := (I x14)) (rv_load1 Tryz.underlying3 rfl rfl hc17) (sq (v := (I s10.2)) (rv_move rfl) ?_)
   revert h; refine br fun x18 hx19 h => ?_
   have hl20 := gidx_lt hx19 Ec
   refine sq (v := (pt b3 (0 + s10.2.toNat * 1))) (rv_indexAddr_array Tryz.underlying113 ti3 rfl rfl hl20.1 hl20.2) ?_
   have hc21 := Hp.arrCell H 2 rfl hx19
   refine sq (v := (I x18)) (rv_load1 Tryz.underlying3 rfl rfl hc21) (sq (v := (I (w64 (x14 - x18)))) (rv_sub (a := x14) (b := x18) rfl rfl) (sq (v := (I s10.2)) (rv_move rfl) ?_))
   revert h; refine br fun x22 hx23 h => ?_
   have hl24 := gidx_lt hx23 Ec
   refine sq (v := (pt b3 (0 + s10.2.toNat * 1))) (rv_indexAddr_array Tryz.underlying113 ti3 rfl rfl hl24.1 hl24.2) ?_
   have hc25 := Hp.arrCell H 2 rfl hx23
   refine sq (v := (I x22)) (rv_load1 Tryz.underlying3 rfl rfl hc25) (sq (v := (I s10.2)) (rv_move rfl) ?_)
   revert h; refine br fun x26 hx27 h => ?_
   have hl28 := gidx_lt hx27 Eb
   refine sq (v := (pt b1 (0 + s10.2.toNat * 1))) (rv_indexAddr_array Tryz.underlying113 ti3 rfl rfl hl28.1 hl28.2) ?_
   have hc29 := Hp.arrCell H 1 rfl hx27
   refine sq (v := (I x26)) (rv_load1 Tryz.underlying3 rfl rfl hc29) (sq (v := (I (w64 (x22 - x26)))) (rv_sub (a := x22) (b := x26) rfl rfl) (sq (v := (I (max (w64 (x14 - x18)) (w64 (x22 - x26))))) (rv_max rfl rfl) (sq_end ?_)))
   intro σ30 hm31
   replace H := H.grow (hm31.mono fun _ h => h); clear hm31
   revert h; refine br fun x32 hx33 h => ?_
   have hl34 := gidx_lt hx33 hl12
   refine st (v := (pt b7 (0 + s10.2.toNat * 1))) (rv_indexAddr_array Tryz.underlying113 ti3 rfl rfl hl34.1 hl34.2) ?_
   have hl35 := gidx_lt hx33 hl12
   refine st_exS (ex_store_box (k := s10.2.toNat * 1) (vs := [(I (max (w64 (x14 - x18)) (w64 (x22 - x26))))]) (cs' := (List.map I (s10.1.set s10.2.toNat (max (w64 (x14 - x18)) (w64 (x22 - x26)))))) H (i := 0) rfl ti3 rfl rfl rfl rfl rfl (by rw [List.length_map, hl12]; simp; omega) (by simp [plain]) (arr_set' _ _ _)) wn ?_
   rintro σ36 ⟨H, -⟩
   refine w_end (q_blk (q_then (rg (st (v := (I (w64 (s10.2 + 1)))) (rv_add (a := s10.2) (b := 1) rfl rfl) (sm (I (w64 (s10.2 + 1))) rfl (w_end (q_then ?_)))))))
   obtain rfl := sj h
   exact ⟨_, rfl, _, σ36, fr_join ⟨rfl, rfl, rfl, rfl, rfl, trivial⟩, rfl, H.sel' [0, 1, 2, 3] rfl rfl, (set_len hl12)⟩
  ·replace h := bif_f hb13 h
   refine c_exit (q_then_x (q_then_x (q_blk_hit ?_)))
   obtain rfl := sj h
   obtain rfl := hres _ rfl
   exact ⟨rfl, _, σ11, fr_join ⟨rfl, rfl, trivial⟩, rfl, H.sel' [0, 3] rfl rfl, hl12⟩
 ·clear hj
  have h := h'
  clear h' H
  rintro e a w ⟨rfl, ρ, σ37, rfl, rfl, H, hl38⟩
  refine q_then (c_seq (rg ?_))
  have hc39 := H.cells 0 rfl
  refine st (v := (.agg (List.map I o9).toArray)) (rv_load (cs := (List.map I o9)) Tryz.underlying113 rfl ti113 rfl (by rw [List.length_map]; exact hl38) hc39) ?_
  refine st_exS (ex_store_box (k := 0) (cs := (List.map I (List.replicate 4 0))) (vs := (List.map I o9)) (cs' := (List.map I o9)) H (i := 1) rfl ti113 rfl rfl rfl rfl ((List.length_map _).trans hl38) (arr_fits (k := 4) hl38 rfl) (plain_ints _) (arr_all (k := 4) hl38 rfl)) wn ?_
  rintro σ40 ⟨H, -⟩
  refine w_end (q_then (c_ret ?_))
  obtain rfl := sj h
  exact fin_ret (v := (.agg (List.map I o9).toArray)) (results_ok Tryz.results96 (res_cell rfl (run_cellRes (cs := (List.map I o9)) Tryz.underlying113 rfl ti113 (by rw [List.length_map]; exact hl38) (H.cells 0 rfl)) res_nil) rfl) ⟨rfl, rfl, hl38⟩ (H.sel' [] rfl rfl)

theorem c_impl_distanceOf {Bo : Int} {Ed : List Int} (Ee : Ed.length = 4) {r : Int} (h : M.impl_distanceOf Bo Ed = some r) :
    Cal2 Tryz.prog 95 [(I Bo), (.agg (List.map I Ed).toArray)] [] (fun n0 v L => v = (I r) ∧ L = []) := by
 refine cal2 (n := 38) Tryz.func95 rfl rfl rfl rfl ?_
 intro S0 σ0 n0 hn0 H
 unfold M.impl_distanceOf at h
 refine c_seq (rg (st_ex (ex_box (cs := (List.map I Ed)) H hn0 rfl rfl) wn ?_))
 rintro _ σ2 ⟨b1, rfl, H, -⟩
 refine sa (I 0) rfl (w_end (q_then (c_seq (rg (sa (I 0) rfl (w_end (q_then (c_seq (c_seq (rg ?_))))))))))
 have hc3 := H.cells 0 rfl
 refine st (v := (.agg (List.map I Ed).toArray)) (rv_load (cs := (List.map I Ed)) Tryz.underlying113 rfl ti113 rfl (by rw [List.length_map]; exact Ee) hc3) ?_
 refine sm (I 0) rfl (w_end (q_then ?_))
 obtain ⟨o4, hj, h'⟩ := bind_some h
 clear h
 refine c_cut (fun e a w => (∃ t, o4 = (.inl t) ∧ e = .normal ∧ ∃ (ρ : Nat → Value) (σ : St), a = fr 38 (updL ρ [(5, (I t))]) ∧ w = σ.w ∧ Hp S0 σ0 σ []) ∨ (∃ t, o4 = (.inr t) ∧ e = .ret ∧ ∃ (ρ : Nat → Value) (σ : St), a = fr 38 (updL ρ [(4, (I t))]) ∧ w = σ.w ∧ Hp S0 σ0 σ [])) ?_ ?_
 ·clear h'
  rename _ = some o4 => h
  refine c_blk (wp_loopM _ h (fun s5 a w => ∃ (ρ : Nat → Value) (σ : St), a = fr 38 (updL ρ [(0, (I Bo)), (5, (I s5.1)), (8, (.agg (List.map I Ed).toArray)), (9, (I s5.2))]) ∧ w = σ.w ∧ Hp S0 σ0 σ []) ⟨_, σ2, fr_join ⟨rfl, rfl, rfl, rfl, trivial⟩, rfl, H.sel' [] rfl rfl⟩ ?_)
  clear h H
  rintro s5 a w o ⟨ρ, σ6, rfl, rfl, H⟩ h hres
  refine c_seq (rg (st (v := (B (decide (s5.2 < 4)))) (rv_lss (a := s5.2) (b := 4) rfl rfl) (w_end (q_then (c_seq ?_)))))
  refine cd_cond (decide (s5.2 < 4)) rfl (fun hb7 => ?_) (fun hb7 => ?_)
  ·replace h := bif_t hb7 h
   refine c_skip (q_then (c_seq ?_))
   obtain ⟨o8, hj, h'⟩ := bind_some h
   clear h
   refine c_cut (fun e a w => (∃ t, o8 = (.inl t) ∧ e = .normal ∧ ∃ (ρ : Nat → Value) (σ : St), a = fr 38 (updL ρ [(0, (I Bo)), (5, (I t)), (8, (.agg (List.map I Ed).toArray)), (9, (I s5.2))]) ∧ w = σ.w ∧ Hp S0 σ0 σ []) ∨ (∃ t, o8 = (.inr t) ∧ e = .ret ∧ ∃ (ρ : Nat → Value) (σ : St), a = fr 38 (updL ρ [(4, (I t))]) ∧ w = σ.w ∧ Hp S0 σ0 σ [])) ?_ ?_
   ·clear h'
    rename _ = some o8 => h
    refine c_blk (c_seq (rg ?_))
    revert h; refine br fun x9 hx10 h => ?_
    refine st (v := (I x9)) (rv_idx Tryz.underlying113 ti3 Tryz.underlying3 rfl rfl hx10 Ee) (sa (I x9) rfl (w_end (q_then (c_seq (rg (sm (I Bo) rfl (w_end (q_then (c_blk (c_seq (rg ?_)))))))))))
    refine st (v := (B (Bo == 1))) (rv_eql (a := Bo) (b := 1) rfl rfl) (sa (B (Bo == 1)) rfl (w_end (q_then ?_)))
    refine cd_cond (Bo == 1) rfl (fun hb11 => ?_) (fun hb11 => ?_)
    ·replace h := bif_t hb11 h
     refine rg (sm (I s5.1) rfl (sm (I x9) rfl (st (v := (I (w64 (s5.1 + x9)))) (rv_add (a := s5.1) (b := x9) rfl rfl) (sa (I (w64 (s5.1 + x9))) rfl (w_end (q_blk (q_blk ?_)))))))
     obtain rfl := sj h
     exact .inl ⟨_, rfl, rfl, _, σ6, fr_join ⟨rfl, rfl, rfl, rfl, trivial⟩, rfl, H.sel' [] rfl rfl⟩
    ·replace h := bif_f hb11 h
     refine c_seq (rg (st (v := (B (Bo == 2))) (rv_eql (a := Bo) (b := 2) rfl rfl) (sa (B (Bo == 2)) rfl (w_end (q_then ?_)))))
     refine cd_cond (Bo == 2) rfl (fun hb12 => ?_) (fun hb12 => ?_)
     ·replace h := bif_t hb12 h
      refine rg (sm (I s5.1) rfl (sm (I x9) rfl (st (v := (I (max s5.1 x9))) (rv_max rfl rfl) (sa (I (max s5.1 x9)) rfl (w_end (q_blk (q_blk ?_)))))))
      obtain rfl := sj h
      exact .inl ⟨_, rfl, rfl, _, σ6, fr_join ⟨rfl, rfl, rfl, rfl, trivial⟩, rfl, H.sel' [] rfl rfl⟩
     ·replace h := bif_f hb12 h
      refine c_seq (rg (st (v := (B (Bo == 3))) (rv_eql (a := Bo) (b := 3) rfl rfl) (sa (B (Bo == 3)) rfl (w_end (q_then ?_)))))
      refine cd_cond (Bo == 3) rfl (fun hb13 => ?_) (fun hb13 => ?_)
      ·replace h := bif_t hb13 h
       refine rg (sm (I s5.1) rfl (sm (I x9) rfl (sm (I x9) rfl (st (v := (I (w64 (x9 * x9)))) (rv_mul (a := x9) (b := x9) rfl rfl) (st (v := (I (w64 (s5.1 + (w64 (x9 * x9)))))) (rv_add (a := s5.1) (b := (w64 (x9 * x9))) rfl rfl) (sa (I (w64 (s5.1 + (w64 (x9 * x9))))) rfl (w_end (q_blk (q_blk ?_)))))))))
       obtain rfl := sj h
       exact .inl ⟨_, rfl, rfl, _, σ6, fr_join ⟨rfl, rfl, rfl, rfl, trivial⟩, rfl, H.sel' [] rfl rfl⟩
      ·replace h := bif_f hb13 h
       refine c_seq (rg (st (v := (B (Bo == 4))) (rv_eql (a := Bo) (b := 4) rfl rfl) (sa (B (Bo == 4)) rfl (w_end (q_then ?_)))))
       refine cd_cond (Bo == 4) rfl (fun hb14 => ?_) (fun hb14 => ?_)
       ·replace h := bif_t hb14 h
        refine rg (sm (I s5.1) rfl (sm (I x9) rfl (st (v := (I (min x9 1))) (rv_min rfl rfl) (st (v := (I (w64 (s5.1 + (min x9 1))))) (rv_add (a := s5.1) (b := (min x9 1)) rfl rfl) (sa (I (w64 (s5.1 + (min x9 1)))) rfl (w_end (q_blk (q_blk ?_))))))))
        obtain rfl := sj h
        exact .inl ⟨_, rfl, rfl, _, σ6, fr_join ⟨rfl, rfl, rfl, rfl, trivial⟩, rfl, H.sel' [] rfl rfl⟩
       ·replace h := bif_f hb14 h
        refine c_seq (rg (sa (I (-1)) rfl (w_end (q_then (c_ret (q_blk_r (q_blk_r ?_)))))))
        obtain rfl := sj h
        exact .inr (⟨_, rfl, rfl, _, σ6, fr_join ⟨rfl, trivial⟩, rfl, H.sel' [] rfl rfl⟩)
   ·clear hj
    have h := h'
    clear h' H
    rintro e a w (⟨t15, rfl, rfl, ρ, σ16, rfl, rfl, H⟩ | ⟨t17, rfl, rfl, ρ, σ18, rfl, rfl, H⟩)
    ·replace h := selim_l h
     refine q_then (rg (st (v := (I (w64 (s5.2 + 1)))) (rv_add (a := s5.2) (b := 1) rfl rfl) (sm (I (w64 (s5.2 + 1))) rfl (w_end (q_then ?_)))))
     obtain rfl := sj h
     exact ⟨_, rfl, _, σ16, fr_join ⟨rfl, rfl, rfl, rfl, trivial⟩, rfl, H.sel' [] rfl rfl⟩
    ·replace h := selim_r h
     refine q_then_r (q_then_r (q_blk_r ?_))
     obtain rfl := sj h
     obtain rfl := hres _ rfl
     exact .inr (⟨_, rfl, rfl, _, σ18, fr_join ⟨rfl, trivial⟩, rfl, H.sel' [] rfl rfl⟩)
  ·replace h := bif_f hb7 h
   refine c_exit (q_then_x (q_then_x (q_blk_hit ?_)))
   obtain rfl := sj h
   obtain rfl := hres _ rfl
   exact .inl ⟨_, rfl, rfl, _, σ6, fr_join ⟨rfl, trivial⟩, rfl, H.sel' [] rfl rfl⟩
 ·clear hj
  have h := h'
  clear h' H
  rintro e a w (⟨t19, rfl, rfl, ρ, σ20, rfl, rfl, H⟩ | ⟨t21, rfl, rfl, ρ, σ22, rfl, rfl, H⟩)
  ·replace h := selim_l h
   refine q_then (c_seq (rg (sm (I t19) rfl (sa (I t19) rfl (w_end (q_then (c_ret ?_)))))))
   obtain rfl := sj h
   exact fin_ret (v := (I t19)) (results_ok Tryz.results95 (res_tmp (v := (I t19)) rfl res_nil) rfl) ⟨rfl, rfl⟩ (H.sel' [] rfl rfl)
  ·replace h := selim_r h
   refine q_then_r ?_
   obtain rfl := sj h
   exact fin_ret (v := (I t21)) (results_ok Tryz.results95 (res_tmp (v := (I t21)) rfl res_nil) rfl) ⟨rfl, rfl⟩ (H.sel' [] rfl rfl)

theorem c_impl_Distance {Bo : Int} {Bp : List Int} {Bq : List Int} {Br : Option Addr} {Bs : Nat} {Bt : Option Addr} {Bu : Nat} {r : Int} (h : M.impl_Distance Bo Bp Bq = some r) :
    Cal2 Tryz.prog 75 [(I Bo), (Sl Br Bp Bs), (Sl Bt Bq Bu)] [Ch.ro 0 (Sl Br Bp Bs) Bp, Ch.ro 0 (Sl Bt Bq Bu) Bq] (fun n0 v L => v = (I r) ∧ L = []) := by
 refine cal2 (n := 24) Tryz.func75 rfl rfl rfl rfl ?_
 intro S0 σ0 n0 hn0 H
 unfold M.impl_Distance at h
 refine c_seq (rg (sa (I 0) rfl (w_end (q_then (c_seq (c_seq ?_))))))
 obtain ⟨o1, hj, h'⟩ := bind_some h
 clear h
 refine c_cut (fun e a w => e = .normal ∧ ∃ (ρ : Nat → Value) (σ : St), a = fr 24 (updL ρ [(0, (I Bo)), (1, (Sl Br Bp Bs)), (2, (Sl Bt Bq Bu)), (14, (B o1))]) ∧ w = σ.w ∧ Hp S0 σ0 σ [Ch.ro 0 (Sl Br Bp Bs) Bp, Ch.ro 0 (Sl Bt Bq Bu) Bq]) ?_ ?_
 ·clear h'
  rename _ = some o1 => h
  refine rg (sm (Sl Br Bp Bs) rfl ?_)
  revert h; refine br fun r2 hx3 h => ?_
  have hc4 := c_impl_ValidVector (Aq := Br) (Ar := Bs) hx3
  refine st_call (cx_call hc4 (ent_f hc4.fn rfl) hn0 (H.sel' [0, 0, 1] rfl rfl : Hp S0 σ0 _ ([_] ++ _))) wn ?_
  rintro _ σ5 ⟨_, ⟨rfl, rfl⟩, H, -⟩
  replace H : Hp _ _ _ [_, _] := H
  refine st (v := (B (!r2))) (rv_not rfl) (sm (B (!r2)) rfl ?_)
  rcases Bool.eq_false_or_eq_true (!r2) with hb6 | hb6
  ·replace h := bif_t hb6 h
   refine st_skip (congrArg some hb6) (st_skip (congrArg some hb6) (st_skip (congrArg some hb6) (st (v := (B true)) (rv_pick_t (congrArg B hb6) rfl) (w_end ?_))))
   obtain rfl := sj h
   exact ⟨rfl, _, σ5, fr_join ⟨rfl, rfl, rfl, rfl, trivial⟩, rfl, H.sel' [0, 1] rfl rfl⟩
  ·replace h := bif_f hb6 h
   refine st_g (v := (Sl Bt Bq Bu)) (congrArg some hb6) (rv_move rfl) ?_
   revert h; refine br fun r7 hx8 h => ?_
   have hc9 := c_impl_ValidVector (Aq := Bt) (Ar := Bu) hx8
   refine st_call (cx_call hc9 (ent_f hc9.fn rfl) hn0 (H.sel' [1, 0, 1] rfl rfl : Hp S0 σ0 _ ([_] ++ _))) (wanted_yes rfl (by exact (congrArg some hb6))) ?_
   rintro _ σ10 ⟨_, ⟨rfl, rfl⟩, H, -⟩
   replace H : Hp _ _ _ [_, _] := H
   refine st_g (v := (B (!r7))) (congrArg some hb6) (rv_not rfl) (st (v := (B (!r7))) (rv_pick_f (congrArg B hb6) rfl) (w_end ?_))
   obtain rfl := sj h
   exact ⟨rfl, _, σ10, fr_join ⟨rfl, rfl, rfl, rfl, trivial⟩, rfl, H.sel' [0, 1] rfl rfl⟩
 ·clear hj
  have h := h'
  clear h' H
  rintro e a w ⟨rfl, ρ, σ11, rfl, rfl, H⟩
  refine q_then ?_
  refine cd_cond o1 rfl (fun hb12 => ?_) (fun hb12 => ?_)
  ·replace h := bif_t hb12 h
   refine c_seq (rg (sa (I (-1)) rfl (w_end (q_then (c_ret (q_then_r ?_))))))
   obtain rfl := sj h
   exact fin_ret (v := (I (-1))) (results_ok Tryz.results75 (res_tmp (v := (I (-1))) rfl res_nil) rfl) ⟨rfl, rfl⟩ (H.sel' [] rfl rfl)
  ·replace h := bif_f hb12 h
   refine c_skip (q_then (c_seq ?_))
   revert h; refine br fun xs13 hx14 h => ?_
   obtain ⟨hl18, hq19⟩ := garr_some hx14
   clear hx14 hq19
   obtain ⟨b15, o16, rfl, hc17⟩ := (H.ro 0 rfl).arr (Nat.lt_of_lt_of_le (by decide) hl18)
   revert h; refine br fun xs20 hx21 h => ?_
   obtain ⟨hl25, hq26⟩ := garr_some hx21
   clear hx21 hq26
   obtain ⟨b22, o23, rfl, hc24⟩ := (H.ro 1 rfl).arr (Nat.lt_of_lt_of_le (by decide) hl25)
   revert h; refine br fun r27 hx28 h => ?_
   have hc29 := c_impl_gapsOf (by rw [List.length_take]; have := hl18; omega) (by rw [List.length_take]; have := hl25; omega) hx28
   have Hs := H
   refine rg2 (σ := σ11) (Nm := Unit) 8 [7] [[false], [true]] [[(0, 0), (1, 1)], [(0, 0)], [(0, 0)], [(0, 0)], [(0, 0)], [(0, 0)], [(0, 0)], [(0, 1)]] 1 [fun _ => fun σm => Hp S0 σ0 σm [Ch.ro 0 (Sl (some ⟨b15, o16, none⟩) Bp Bs) Bp, Ch.ro 0 (Sl (some ⟨b22, o23, none⟩) Bq Bu) Bq] ∧ Md (cov []) σ11 σm, fun _ => fun σm => Hp S0 σ0 σm [Ch.ro 0 (Sl (some ⟨b15, o16, none⟩) Bp Bs) Bp, Ch.ro 0 (Sl (some ⟨b22, o23, none⟩) Bq Bu) Bq] ∧ Md (cov []) σ11 σm ∧ r27.length = 4] [fun _ => (I Bo), fun _ => (Sl (some ⟨b15, o16, none⟩) Bp Bs), fun _ => (.pointer (some ⟨b15, o16, none⟩)), fun _ => (.agg (List.map I (List.take 4 Bp)).toArray), fun _ => (Sl (some ⟨b22, o23, none⟩) Bq Bu), fun _ => (.pointer (some ⟨b22, o23, none⟩)), fun _ => (.agg (List.map I (List.take 4 Bq)).toArray), fun _ => (.agg (List.map I r27).toArray)] () (by kernel_rfl) (by kernel_rfl) ?_ ?_ ?_
   ·intro σm m0
    exact ⟨H.grow (m0.mono fun _ h => h.elim), m0⟩
   ·refine ac rfl (by
      intro k _nm ρ σm hJ hoff hdep
      have e0 := look_off (N := 24) (hoff 0 rfl) rfl
      exact dp_v (v := (I Bo)) wn (rv_move e0) rfl hJ) ?_
    refine ac rfl (by
      intro k _nm ρ σm hJ hoff hdep
      have e1 := look_off (N := 24) (hoff 1 rfl) rfl
      exact dp_v (v := (Sl (some ⟨b15, o16, none⟩) Bp Bs)) wn (rv_move e1) rfl hJ) ?_
    refine ac rfl (by
      intro k _nm ρ σm hJ hoff hdep
      have e16 := hdep 1 rfl rfl 16 rfl
      exact dp_v (v := (.pointer (some ⟨b15, o16, none⟩))) wn (rv_arrPtr Tryz.underlying113 e16 hl18) rfl hJ) ?_
    refine all_cons (by
      refine ⟨?_, ?_⟩
      ·intro _nm ρ σm hJ hoff hdep
       have e17 := hdep 2 rfl rfl 17 rfl
       obtain ⟨H, m⟩ := id hJ
       replace hc17 := (Hs.ro 0 rfl).arr_md hc17 m
       exact dp_v (v := (.agg (List.map I (List.take 4 Bp)).toArray)) wn (rv_load (cs := List.map I (List.take 4 Bp)) Tryz.underlying113 rfl ti113 e17 (by rw [List.length_map, List.length_take]; have := hl18; omega) (arr_take hc17)) rfl hJ
      trivial) ?_
    refine ac rfl (by
      intro k _nm ρ σm hJ hoff hdep
      have e2 := look_off (N := 24) (hoff 2 rfl) rfl
      exact dp_v (v := (Sl (some ⟨b22, o23, none⟩) Bq Bu)) wn (rv_move e2) rfl hJ) ?_
    refine ac rfl (by
      intro k _nm ρ σm hJ hoff hdep
      have e19 := hdep 4 rfl rfl 19 rfl
      exact dp_v (v := (.pointer (some ⟨b22, o23, none⟩))) wn (rv_arrPtr Tryz.underlying113 e19 hl25) rfl hJ) ?_
    refine all_cons (by
      refine ⟨?_, ?_⟩
      ·intro _nm ρ σm hJ hoff hdep
       have e20 := hdep 5 rfl rfl 20 rfl
       obtain ⟨H, m⟩ := id hJ
       replace hc24 := (Hs.ro 1 rfl).arr_md hc24 m
       exact dp_v (v := (.agg (List.map I (List.take 4 Bq)).toArray)) wn (rv_load (cs := List.map I (List.take 4 Bq)) Tryz.underlying113 rfl ti113 e20 (by rw [List.length_map, List.length_take]; have := hl25; omega) (arr_take hc24)) rfl hJ
      trivial) ?_
    refine all_cons (by
      refine ⟨?_, ?_⟩
      ·intro _nm ρ σm hJ hoff hdep
       have e18 : look 24 ρ 18 = (.agg (List.map I (List.take 4 Bp)).toArray) := hdep 3 rfl rfl 18 rfl
       have e21 : look 24 ρ 21 = (.agg (List.map I (List.take 4 Bq)).toArray) := hdep 6 rfl rfl 21 rfl
       obtain ⟨H, m⟩ := id hJ
       refine dp_cx wn (cx_call hc29 (ent_f hc29.fn (by show [look 24 ρ 18, look 24 ρ 21] = _; rw [e18, e21])) hn0 (H.sel' [0, 1] rfl rfl : Hp S0 σ0 _ ([] ++ _))) ?_
       rintro _ σq ⟨_, ⟨rfl, rfl, hl30⟩, H2, m2⟩
       exact ⟨_, (), rfl, rfl, ⟨H2.sel' [0, 1] rfl rfl, m.comp0 m2, hl30⟩, stab [0, 1, 2, 3, 4, 5, 6] (by kernel_rfl) ⟨rfl, rfl, rfl, rfl, rfl, rfl, rfl, trivial⟩⟩
      trivial) ?_
    exact all_nil
   ·intro _nm ρ σ31 hJ hoff hrel
    have e15 := hrel 0 rfl 15 rfl
    have e22 := hrel 7 rfl 22 rfl
    obtain ⟨H, -, hl30⟩ := (show Hp S0 σ0 σ31 [Ch.ro 0 (Sl (some ⟨b15, o16, none⟩) Bp Bs) Bp, Ch.ro 0 (Sl (some ⟨b22, o23, none⟩) Bq Bu) Bq] ∧ Md (cov []) σ11 σ31 ∧ r27.length = 4 from hJ)
    clear hJ Hs
    rw [fr_lookL (L := [(15, (I Bo)), (22, (.agg (List.map I r27).toArray))]) ⟨e15, e22, trivial⟩]
    clear hoff hrel e15 e22
    revert h; refine br fun r32 hx33 h => ?_
    have hc34 := c_impl_distanceOf hl30 hx33
    refine st_call (cx_call hc34 (ent_f hc34.fn rfl) hn0 (H.sel' [0, 1] rfl rfl : Hp S0 σ0 _ ([] ++ _))) wn ?_
    rintro _ σ35 ⟨_, ⟨rfl, rfl⟩, H, -⟩
    replace H : Hp _ _ _ [_, _] := H
    refine sa (I r32) rfl (w_end (q_then (c_ret ?_)))
    obtain rfl := sj h
    exact fin_ret (v := (I r32)) (results_ok Tryz.results75 (res_tmp (v := (I r32)) rfl res_nil) rfl) ⟨rfl, rfl⟩ (H.sel' [] rfl rfl)

theorem c_impl_nearestAmong_1__p3__p24 {Au : Int × (List Int) × Int} {Ef : Int} {Eg : List Int} {Av : Option Addr} {Aw : Nat} {Eh Ei Ej : Nat} {Ek El : List Value} {Em : Option Addr} {En : Nat} {Eo Ep Er : Nat} {Es Et : List Value} {r : Int} (h : M.impl_nearestAmong_1__p3__p24 Au Ef Eg = some r) :
    Cal2 Tryz.prog 92 [(.agg #[(I Au.1), (Sl Av Au.2.1 Aw), (I Au.2.2)]), (pt Ei Ej), (pt Ep Er)] [Ch.ro 0 (Sl Av Au.2.1 Aw) Au.2.1, Ch.bx Eh Ei Ej [(I Ef)] Ek El, Ch.bx Eo Ep Er [(Sl Em Eg En)] Es Et, Ch.ro 0 (Sl Em Eg En) Eg] (fun n0 v L => v = (I r) ∧ L = [Ch.bx Eh Ei Ej [(I Ef)] Ek El, Ch.bx Eo Ep Er [(Sl Em Eg En)] Es Et]) := by
 refine cal2 (n := 10) Tryz.func92 rfl rfl rfl rfl ?_
 intro S0 σ0 n0 hn0 H
 unfold M.impl_nearestAmong_1__p3__p24 at h
 refine c_seq (rg (st_ex (ex_box (cs := [(I Au.1), (Sl Av Au.2.1 Aw), (I Au.2.2)]) H hn0 rfl rfl) wn ?_))
 rintro _ σ2 ⟨b1, rfl, H, -⟩
 refine sa (I 0) rfl (w_end (q_then (c_seq (rg ?_))))
 have hc3 := H.cell (u := (I Ef)) (o' := Ej) 2 0 rfl rfl rfl
 refine st (v := (I Ef)) (rv_load1 Tryz.underlying3 rfl rfl hc3) (st (v := (pt b1 1)) (rv_fieldAddr (off := 1) (ft := 51) Tryz.underlying67 rfl ti51 rfl rfl) ?_)
 have hc4 := H.cell (u := (Sl Av Au.2.1 Aw)) (o' := 1) 0 1 rfl rfl rfl
 refine st (v := (Sl Av Au.2.1 Aw)) (rv_load1 Tryz.underlying51 rfl rfl hc4) ?_
 have hc5 := H.cell (u := (Sl Em Eg En)) (o' := Er) 3 0 rfl rfl rfl
 refine st (v := (Sl Em Eg En)) (rv_load1 Tryz.underlying51 rfl rfl hc5) ?_
 revert h; refine br fun r6 hx7 h => ?_
 have hc8 := c_impl_Distance (Br := Av) (Bs := Aw) (Bt := Em) (Bu := En) hx7
 refine st_call (cx_call hc8 (ent_f hc8.fn rfl) hn0 (H.sel' [1, 4, 0, 1, 2, 3, 4] rfl rfl : Hp S0 σ0 _ ([_, _] ++ _))) wn ?_
 rintro _ σ9 ⟨_, ⟨rfl, rfl⟩, H, -⟩
 replace H : Hp _ _ _ [_, _, _, _, _] := H
 refine sa (I r6) rfl (w_end (q_then (c_ret ?_)))
 obtain rfl := sj h
 exact fin_ret (v := (I r6)) (results_ok Tryz.results92 (res_tmp (v := (I r6)) rfl res_nil) rfl) ⟨rfl, rfl⟩ (H.sel' [2, 3] rfl rfl)

end Go.Vs
