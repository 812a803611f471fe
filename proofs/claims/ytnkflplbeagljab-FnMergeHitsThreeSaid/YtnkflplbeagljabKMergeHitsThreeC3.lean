/- The functions compute what their models say. -/
import Derived.Test.YtnkflplbeagljabKMergeHitsThreeC2
set_option linter.unusedVariables false
set_option linter.unusedSimpArgs false
set_option maxRecDepth 20000
namespace Go.Vs
open Go Go.Proofs
attribute [local irreducible] Code.wp Code.wpIn wpList wpListIn wpQuiet Calls CallsIn

theorem c_slices_xorshift_Next {r_0 : Int} {lor_0 br_0 or_0 : Nat} {prer_0 sufr_0 : List Value} {r : Int × Int} (h : M.slices_xorshift_Next r_0 = some r) :
    Cal2 Try.prog 132 [(pt br_0 or_0)] [Ch.bx lor_0 br_0 or_0 [(.int .u64 r_0)] prer_0 sufr_0] (fun n0 v L => v = (.int .u64 r.1) ∧ L = [Ch.bx lor_0 br_0 or_0 [(.int .u64 r.2)] prer_0 sufr_0]) := by
 refine cal2 (n := 33) Try.func132 rfl rfl rfl rfl ?_
 intro S0 σ0 n0 hn0 H
 unfold M.slices_xorshift_Next at h
 refine c_seq ?_
 refine rg ?_
 refine st (v := (.int .u64 0)) (rv_assign rfl) ?_
 refine w_end ?_
 refine q_then ?_
 refine c_seq ?_
 refine rgP (σ := σ0) 7 (by kernel_rfl) (by kernel_rfl) (by kernel_rfl) ?_
 refine sq (v := (pt br_0 or_0)) (rv_move rfl) ?_
 refine sq (v := (pt br_0 or_0)) (rv_nilCheck rfl) ?_
 have hc1 := H.cell (u := (.int .u64 r_0)) (o' := or_0) 0 0 rfl rfl rfl
 refine sq (v := (.int .u64 r_0)) (rv_load1 Try.underlying138 rfl rfl hc1) ?_
 refine sq (v := (pt br_0 or_0)) (rv_move rfl) ?_
 refine sq (v := (pt br_0 or_0)) (rv_nilCheck rfl) ?_
 have hc2 := H.cell (u := (.int .u64 r_0)) (o' := or_0) 0 0 rfl rfl rfl
 refine sq (v := (.int .u64 r_0)) (rv_load1 Try.underlying138 rfl rfl hc2) ?_
 refine sq (v := (.int .u64 (gshl .u64 r_0 13))) (rvk_shl (k := .u64) (k' := .u64) (a := r_0) (b := 13) rfl rfl (by decide)) ?_
 refine sq_end ?_
 intro σ3 hm4
 replace H := H.grow (hm4.mono fun _ h => h); clear hm4
 refine st (v := (.int .u64 (gxork .u64 r_0 (gshl .u64 r_0 13)))) (rvk_xor (k := .u64) (a := r_0) (b := (gshl .u64 r_0 13)) rfl rfl) ?_
 refine st (v := (pt br_0 or_0)) (rv_nilCheck rfl) ?_
 refine st_exS (ex_store_box (k := 0) (cs := [(.int .u64 r_0)]) (vs := [(.int .u64 (gxork .u64 r_0 (gshl .u64 r_0 13)))]) (cs' := [(.int .u64 (gxork .u64 r_0 (gshl .u64 r_0 13)))]) H (i := 0) rfl ti138 rfl rfl rfl rfl rfl (Nat.le_of_ble_eq_true rfl) (by simp [plain]) rfl) wn ?_
 rintro σ5 ⟨H, -⟩
 refine w_end ?_
 refine q_then ?_
 refine c_seq ?_
 refine rgP (σ := σ5) 7 (by kernel_rfl) (by kernel_rfl) (by kernel_rfl) ?_
 refine sq (v := (pt br_0 or_0)) (rv_move rfl) ?_
 refine sq (v := (pt br_0 or_0)) (rv_nilCheck rfl) ?_
 have hc6 := H.cell (u := (.int .u64 (gxork .u64 r_0 (gshl .u64 r_0 13)))) (o' := or_0) 0 0 rfl rfl rfl
 refine sq (v := (.int .u64 (gxork .u64 r_0 (gshl .u64 r_0 13)))) (rv_load1 Try.underlying138 rfl rfl hc6) ?_
 refine sq (v := (pt br_0 or_0)) (rv_move rfl) ?_
 refine sq (v := (pt br_0 or_0)) (rv_nilCheck rfl) ?_
 have hc7 := H.cell (u := (.int .u64 (gxork .u64 r_0 (gshl .u64 r_0 13)))) (o' := or_0) 0 0 rfl rfl rfl
 refine sq (v := (.int .u64 (gxork .u64 r_0 (gshl .u64 r_0 13)))) (rv_load1 Try.underlying138 rfl rfl hc7) ?_
 refine sq (v := (.int .u64 (gshr .u64 (gxork .u64 r_0 (gshl .u64 r_0 13)) 7))) (rvk_shr (k := .u64) (k' := .u64) (a := (gxork .u64 r_0 (gshl .u64 r_0 13))) (b := 7) rfl rfl (by decide)) ?_
 refine sq_end ?_
 intro σ8 hm9
 replace H := H.grow (hm9.mono fun _ h => h); clear hm9
 refine st (v := (.int .u64 (gxork .u64 (gxork .u64 r_0 (gshl .u64 r_0 13)) (gshr .u64 (gxork .u64 r_0 (gshl .u64 r_0 13)) 7)))) (rvk_xor (k := .u64) (a := (gxork .u64 r_0 (gshl .u64 r_0 13))) (b := (gshr .u64 (gxork .u64 r_0 (gshl .u64 r_0 13)) 7)) rfl rfl) ?_
 refine st (v := (pt br_0 or_0)) (rv_nilCheck rfl) ?_
 refine st_exS (ex_store_box (k := 0) (cs := [(.int .u64 (gxork .u64 r_0 (gshl .u64 r_0 13)))]) (vs := [(.int .u64 (gxork .u64 (gxork .u64 r_0 (gshl .u64 r_0 13)) (gshr .u64 (gxork .u64 r_0 (gshl .u64 r_0 13)) 7)))]) (cs' := [(.int .u64 (gxork .u64 (gxork .u64 r_0 (gshl .u64 r_0 13)) (gshr .u64 (gxork .u64 r_0 (gshl .u64 r_0 13)) 7)))]) H (i := 0) rfl ti138 rfl rfl rfl rfl rfl (Nat.le_of_ble_eq_true rfl) (by simp [plain]) rfl) wn ?_
 rintro σ10 ⟨H, -⟩
 refine w_end ?_
 refine q_then ?_
 refine c_seq ?_
 refine rgP (σ := σ10) 7 (by kernel_rfl) (by kernel_rfl) (by kernel_rfl) ?_
 refine sq (v := (pt br_0 or_0)) (rv_move rfl) ?_
 refine sq (v := (pt br_0 or_0)) (rv_nilCheck rfl) ?_
 have hc11 := H.cell (u := (.int .u64 (gxork .u64 (gxork .u64 r_0 (gshl .u64 r_0 13)) (gshr .u64 (gxork .u64 r_0 (gshl .u64 r_0 13)) 7)))) (o' := or_0) 0 0 rfl rfl rfl
 refine sq (v := (.int .u64 (gxork .u64 (gxork .u64 r_0 (gshl .u64 r_0 13)) (gshr .u64 (gxork .u64 r_0 (gshl .u64 r_0 13)) 7)))) (rv_load1 Try.underlying138 rfl rfl hc11) ?_
 refine sq (v := (pt br_0 or_0)) (rv_move rfl) ?_
 refine sq (v := (pt br_0 or_0)) (rv_nilCheck rfl) ?_
 have hc12 := H.cell (u := (.int .u64 (gxork .u64 (gxork .u64 r_0 (gshl .u64 r_0 13)) (gshr .u64 (gxork .u64 r_0 (gshl .u64 r_0 13)) 7)))) (o' := or_0) 0 0 rfl rfl rfl
 refine sq (v := (.int .u64 (gxork .u64 (gxork .u64 r_0 (gshl .u64 r_0 13)) (gshr .u64 (gxork .u64 r_0 (gshl .u64 r_0 13)) 7)))) (rv_load1 Try.underlying138 rfl rfl hc12) ?_
 refine sq (v := (.int .u64 (gshl .u64 (gxork .u64 (gxork .u64 r_0 (gshl .u64 r_0 13)) (gshr .u64 (gxork .u64 r_0 (gshl .u64 r_0 13)) 7)) 17))) (rvk_shl (k := .u64) (k' := .u64) (a := (gxork .u64 (gxork .u64 r_0 (gshl .u64 r_0 13)) (gshr .u64 (gxork .u64 r_0 (gshl .u64 r_0 13)) 7))) (b := 17) rfl rfl (by decide)) ?_
 refine sq_end ?_
 intro σ13 hm14
 replace H := H.grow (hm14.mono fun _ h => h); clear hm14
 refine st (v := (.int .u64 (gxork .u64 (gxork .u64 (gxork .u64 r_0 (gshl .u64 r_0 13)) (gshr .u64 (gxork .u64 r_0 (gshl .u64 r_0 13)) 7)) (gshl .u64 (gxork .u64 (gxork .u64 r_0 (gshl .u64 r_0 13)) (gshr .u64 (gxork .u64 r_0 (gshl .u64 r_0 13)) 7)) 17)))) (rvk_xor (k := .u64) (a := (gxork .u64 (gxork .u64 r_0 (gshl .u64 r_0 13)) (gshr .u64 (gxork .u64 r_0 (gshl .u64 r_0 13)) 7))) (b := (gshl .u64 (gxork .u64 (gxork .u64 r_0 (gshl .u64 r_0 13)) (gshr .u64 (gxork .u64 r_0 (gshl .u64 r_0 13)) 7)) 17)) rfl rfl) ?_
 refine st (v := (pt br_0 or_0)) (rv_nilCheck rfl) ?_
 refine st_exS (ex_store_box (k := 0) (cs := [(.int .u64 (gxork .u64 (gxork .u64 r_0 (gshl .u64 r_0 13)) (gshr .u64 (gxork .u64 r_0 (gshl .u64 r_0 13)) 7)))]) (vs := [(.int .u64 (gxork .u64 (gxork .u64 (gxork .u64 r_0 (gshl .u64 r_0 13)) (gshr .u64 (gxork .u64 r_0 (gshl .u64 r_0 13)) 7)) (gshl .u64 (gxork .u64 (gxork .u64 r_0 (gshl .u64 r_0 13)) (gshr .u64 (gxork .u64 r_0 (gshl .u64 r_0 13)) 7)) 17)))]) (cs' := [(.int .u64 (gxork .u64 (gxork .u64 (gxork .u64 r_0 (gshl .u64 r_0 13)) (gshr .u64 (gxork .u64 r_0 (gshl .u64 r_0 13)) 7)) (gshl .u64 (gxork .u64 (gxork .u64 r_0 (gshl .u64 r_0 13)) (gshr .u64 (gxork .u64 r_0 (gshl .u64 r_0 13)) 7)) 17)))]) H (i := 0) rfl ti138 rfl rfl rfl rfl rfl (Nat.le_of_ble_eq_true rfl) (by simp [plain]) rfl) wn ?_
 rintro σ15 ⟨H, -⟩
 refine w_end ?_
 refine q_then ?_
 refine c_seq ?_
 refine rg ?_
 refine st (v := (pt br_0 or_0)) (rv_move rfl) ?_
 refine st (v := (pt br_0 or_0)) (rv_nilCheck rfl) ?_
 have hc16 := H.cell (u := (.int .u64 (gxork .u64 (gxork .u64 (gxork .u64 r_0 (gshl .u64 r_0 13)) (gshr .u64 (gxork .u64 r_0 (gshl .u64 r_0 13)) 7)) (gshl .u64 (gxork .u64 (gxork .u64 r_0 (gshl .u64 r_0 13)) (gshr .u64 (gxork .u64 r_0 (gshl .u64 r_0 13)) 7)) 17)))) (o' := or_0) 0 0 rfl rfl rfl
 refine st (v := (.int .u64 (gxork .u64 (gxork .u64 (gxork .u64 r_0 (gshl .u64 r_0 13)) (gshr .u64 (gxork .u64 r_0 (gshl .u64 r_0 13)) 7)) (gshl .u64 (gxork .u64 (gxork .u64 r_0 (gshl .u64 r_0 13)) (gshr .u64 (gxork .u64 r_0 (gshl .u64 r_0 13)) 7)) 17)))) (rv_load1 Try.underlying138 rfl rfl hc16) ?_
 refine st (v := (.int .u64 (gxork .u64 (gxork .u64 (gxork .u64 r_0 (gshl .u64 r_0 13)) (gshr .u64 (gxork .u64 r_0 (gshl .u64 r_0 13)) 7)) (gshl .u64 (gxork .u64 (gxork .u64 r_0 (gshl .u64 r_0 13)) (gshr .u64 (gxork .u64 r_0 (gshl .u64 r_0 13)) 7)) 17)))) (rv_assign rfl) ?_
 refine w_end ?_
 refine q_then ?_
 refine c_ret ?_
 obtain rfl := Option.some.inj h
 exact fin_ret (v := (.int .u64 (gxork .u64 (gxork .u64 (gxork .u64 r_0 (gshl .u64 r_0 13)) (gshr .u64 (gxork .u64 r_0 (gshl .u64 r_0 13)) 7)) (gshl .u64 (gxork .u64 (gxork .u64 r_0 (gshl .u64 r_0 13)) (gshr .u64 (gxork .u64 r_0 (gshl .u64 r_0 13)) 7)) 17)))) (results_ok Try.results132 (res_tmp (v := (.int .u64 (gxork .u64 (gxork .u64 (gxork .u64 r_0 (gshl .u64 r_0 13)) (gshr .u64 (gxork .u64 r_0 (gshl .u64 r_0 13)) 7)) (gshl .u64 (gxork .u64 (gxork .u64 r_0 (gshl .u64 r_0 13)) (gshr .u64 (gxork .u64 r_0 (gshl .u64 r_0 13)) 7)) 17)))) rfl res_nil) rfl) ⟨rfl, rfl⟩ (H.sel' [0] rfl rfl)

def sort67_ren : Go.Shelf.Ren := ⟨fun | 6 => 67 | 15 => 93 | 14 => 92 | 28 => 114 | 29 => 115 | 20 => 106 | 21 => 107 | 22 => 108 | 23 => 109 | 24 => 110 | 25 => 111 | 26 => 112 | 27 => 113 | 46 => 130 | 47 => 131 | 48 => 132 | 49 => 133 | 50 => 134 | 57 => 142 | n => n, fun | 22 => 23 | 24 => 40 | 25 => 61 | 3 => 3 | 39 => 97 | 0 => 0 | 53 => 121 | 55 => 123 | 4 => 4 | 46 => 114 | 45 => 113 | 50 => 118 | 5 => 5 | 9 => 9 | 66 => 138 | 70 => 142 | 76 => 155 | 77 => 156 | n => n, fun | n => n⟩
theorem sort67 : Go.Proofs.SlLaysF0.n6 Try.prog sort67_ren := {
  mixed := by kernel_rfl
  f6 := ⟨Try.f67.name, by decide, Try.func67.trans (congrArg some (by kernel_rfl))⟩
  f14 := ⟨Try.f92.name, by decide, Try.func92.trans (congrArg some (by kernel_rfl))⟩
  f15 := Try.func93.trans (congrArg some (by kernel_rfl))
  f20 := ⟨Try.f106.name, by decide, Try.func106.trans (congrArg some (by kernel_rfl))⟩
  f21 := ⟨Try.f107.name, by decide, Try.func107.trans (congrArg some (by kernel_rfl))⟩
  f22 := ⟨Try.f108.name, by decide, Try.func108.trans (congrArg some (by kernel_rfl))⟩
  f23 := ⟨Try.f109.name, by decide, Try.func109.trans (congrArg some (by kernel_rfl))⟩
  f24 := ⟨Try.f110.name, by decide, Try.func110.trans (congrArg some (by kernel_rfl))⟩
  f25 := ⟨Try.f111.name, by decide, Try.func111.trans (congrArg some (by kernel_rfl))⟩
  f26 := ⟨Try.f112.name, by decide, Try.func112.trans (congrArg some (by kernel_rfl))⟩
  f27 := ⟨Try.f113.name, by decide, Try.func113.trans (congrArg some (by kernel_rfl))⟩
  f28 := Try.func114.trans (congrArg some (by kernel_rfl))
  f29 := Try.func115.trans (congrArg some (by kernel_rfl))
  f46 := ⟨Try.f130.name, by decide, Try.func130.trans (congrArg some (by kernel_rfl))⟩
  f47 := Try.func131.trans (congrArg some (by kernel_rfl))
  f48 := Try.func132.trans (congrArg some (by kernel_rfl))
  f49 := ⟨Try.f133.name, by decide, Try.func133.trans (congrArg some (by kernel_rfl))⟩
  f50 := ⟨Try.f134.name, by decide, Try.func134.trans (congrArg some (by kernel_rfl))⟩
  f57 := ⟨Try.f142.name, by decide, Try.func142.trans (congrArg some (by kernel_rfl))⟩
  t0 := Try.underlying0
  a0 := Try.isAgg0
  z0 := Try.sizeOf0
  v0 := Try.zeroValue0
  t3 := Try.underlying3
  a3 := Try.isAgg3
  z3 := Try.sizeOf3
  v3 := Try.zeroValue3
  t4 := Try.underlying4
  a4 := Try.isAgg4
  z4 := Try.sizeOf4
  v4 := Try.zeroValue4
  t5 := Try.underlying5
  a5 := Try.isAgg5
  z5 := Try.sizeOf5
  v5 := Try.zeroValue5
  t9 := Try.underlying9
  a9 := Try.isAgg9
  z9 := Try.sizeOf9
  v9 := Try.zeroValue9
  t22 := Try.underlying23
  a22 := Try.isAgg23
  z22 := Try.sizeOf23
  v22 := Try.zeroValue23
  t25 := Try.underlying61
  a25 := Try.isAgg61
  z25 := Try.sizeOf61
  v25 := Try.zeroValue61
  t39 := Try.underlying97
  a39 := Try.isAgg97
  z39 := Try.sizeOf97
  v39 := Try.zeroValue97
  t45 := Try.underlying113
  a45 := Try.isAgg113
  z45 := Try.sizeOf113
  v45 := Try.zeroValue113
  t46 := Try.underlying114
  a46 := Try.isAgg114
  z46 := Try.sizeOf114
  v46 := Try.zeroValue114
  t50 := Try.underlying118
  a50 := Try.isAgg118
  z50 := Try.sizeOf118
  v50 := Try.zeroValue118
  t53 := Try.underlying121
  a53 := Try.isAgg121
  z53 := Try.sizeOf121
  v53 := Try.zeroValue121
  t55 := Try.underlying123
  a55 := Try.isAgg123
  z55 := Try.sizeOf123
  v55 := Try.zeroValue123
  t66 := Try.underlying138
  a66 := Try.isAgg138
  z66 := Try.sizeOf138
  v66 := Try.zeroValue138
  t70 := Try.underlying142
  a70 := Try.isAgg142
  z70 := Try.sizeOf142
  v70 := Try.zeroValue142
  t76 := Try.underlying155
  a76 := Try.isAgg155
  z76 := Try.sizeOf155
  v76 := Try.zeroValue155
  t77 := Try.underlying156
  a77 := Try.isAgg156
  z77 := Try.sizeOf156
  v77 := Try.zeroValue156 }

theorem c_slices_SortFunc_impl_Hit_impl_Hit__impl_compareHits {x_0 : List (Int × Int)} {ax_0 : Option Addr} {cx_0 : Nat} {r : List (Int × Int)} (h : M.slices_SortFunc_impl_Hit_impl_Hit__impl_compareHits x_0 = some r) :
    Cal2 Try.prog 67 [(Sl ax_0 x_0 cx_0), (.func (.func 45) #[] #[])] [Ch.own 0 0 (Sl ax_0 x_0 cx_0) x_0] (fun n0 v L => v = (.tuple #[]) ∧ L = [Ch.own 0 0 (Sl ax_0 r cx_0) r] ∧ r.length = x_0.length) := by
 obtain ⟨hn, hs, hL, rfl⟩ := sortD_some h
 have hE : ∀ σ σ' : St, Ext σ σ' → (True) → (True) := fun _ _ _ hp => hp
 have hB : ∀ σ : St, allAs σ [] → apart [] → ∃ σp, Pb (cov []) σ σp ∧ True := fun σ _ _ => ⟨σ, ⟨rfl, fun _ _ => rfl, fun _ => Nat.le_refl _⟩, trivial⟩
 have hC : ∀ σ : St, (True) → ∀ x ∈ x_0, ∀ y ∈ x_0, ∀ cx cy, Rp.rp 0 σ cx x → Rp.rp 0 σ cy y → Calls Try.prog 45 ([Value.agg cx.toArray, Value.agg cy.toArray] ++ []).toArray σ.w fun e w' => e = .returned (I ((M.impl_compareHits (x.1, x.2) (y.1, y.2)).getD 0)) ∧ ∃ q os, w' = Go.Sort.grow (σ.w.drewN q) os := by
     intro σ hp x hx y hy cx cy rx ry
     obtain ⟨r, hr⟩ := hs x hx y hy
     obtain ⟨_, _, rfl, rfl, rfl⟩ := rx
     obtain ⟨_, _, rfl, rfl, rfl⟩ := ry
     have hc := c_impl_compareHits  hr
     refine (hc.runs σ 0 (Nat.zero_le _) (Hp.begin trivial trivial)).mono ?_
     rintro e w' ⟨v, σ', L', rfl, rfl, ⟨rfl, -⟩, H⟩
     exact ⟨by rw [hr]; rfl, (H.md.mono fun i => fun h => h).grown⟩
 refine (sort_cal2 (α := (Int × Int)) sort67 Try.isAgg40 Try.sizeOf40 (xs := x_0) (a := ax_0) (c := cx_0) (g := 45) (cb := []) (B := []) (fun x y => (M.impl_compareHits (x.1, x.2) (y.1, y.2)).getD 0) hL hn ⟨_, _, Try.func45, rfl, rfl⟩ _ hE hB hC).conv ?_
 rintro m v L ⟨rfl, rfl⟩
 exact ⟨_, ⟨rfl, rfl, sortL_len⟩, fun H => H.sel' [0] rfl rfl⟩

theorem c_impl_mergedHits {a_0 : List (Int × Int)} {b_1 : List (Int × Int)} {aa_0 : Option Addr} {ca_0 : Nat} {ab_1 : Option Addr} {cb_1 : Nat} {r : (List (Int × Int))} (h : M.impl_mergedHits a_0 b_1 = some r) :
    Cal2 Try.prog 35 [(Sl aa_0 a_0 ca_0), (Sl ab_1 b_1 cb_1)] [Ch.ro 0 (Sl aa_0 a_0 ca_0) a_0, Ch.ro 0 (Sl ab_1 b_1 cb_1) b_1] (fun n0 v L => ∃ (az1 : Option Addr), ∃ (cz2 : Nat), v = (Sl az1 r cz2) ∧ L = [Ch.own n0 n0 (Sl az1 r cz2) r]) := by
 refine cal2 (n := 32) Try.func35 rfl rfl rfl rfl ?_
 intro S0 σ0 n0 hn0 H
 unfold M.impl_mergedHits at h
 refine c_seq ?_
 refine rg ?_
 refine st (v := (.slice none 0 0)) (rv_assign rfl) ?_
 refine w_end ?_
 refine q_then ?_
 refine c_seq ?_
 refine rg ?_
 refine st (v := (.slice none 0 0)) (rv_assign rfl) ?_
 refine w_end ?_
 refine q_then ?_
 refine c_seq ?_
 refine rg ?_
 refine st (v := (Sl aa_0 a_0 ca_0)) (rv_move rfl) ?_
 refine st (v := (Sl ab_1 b_1 cb_1)) (rv_move rfl) ?_
 refine st_ex (ex_buildSlice (el := 0) (xs := ([a_0, b_1] : List (List (Int × Int)))) (ps := [(0, (Sl aa_0 a_0 ca_0)), (1, (Sl ab_1 b_1 cb_1))]) (cs := [(Sl aa_0 a_0 ca_0), (Sl ab_1 b_1 cb_1)]) H hn0 Try.underlying93 ti23 rfl rfl (by kernel_rfl) (.cons (c := [(Sl aa_0 a_0 ca_0)]) ⟨_, rfl, (H.ro 0 rfl)⟩ (.cons (c := [(Sl ab_1 b_1 cb_1)]) ⟨_, rfl, (H.ro 1 rfl)⟩ (.nil))) rfl) wn ?_
 rintro _ σ2 ⟨b1, rfl, H, -⟩
 obtain ⟨σ3, hw4, H, -⟩ := H.pub 0 rfl (Nat.zero_le _)
 rw [← hw4]; clear hw4
 obtain ⟨r5, hx6, h'⟩ := bind_some h
 clear h
 have h := h'; clear h'
 have hc7 := c_slices_Concat_impl_Hit_impl_Hit (aslices_0 := (some ⟨b1, 0, none⟩)) (cslices_0 := 2) hx6
 refine st_call (cx_call hc7 (ent_f hc7.fn rfl) hn0 (show Hp S0 σ0 _ ([Ch.ro 0 (Sl (some ⟨b1, 0, none⟩) ([a_0, b_1] : List (List (Int × Int))) 2) ([a_0, b_1] : List (List (Int × Int)))] ++ [Ch.ro 0 (Sl (some ⟨b1, 0, none⟩) ([a_0, b_1] : List (List (Int × Int))) 2) ([a_0, b_1] : List (List (Int × Int))), Ch.ro 0 (Sl aa_0 a_0 ca_0) a_0, Ch.ro 0 (Sl ab_1 b_1 cb_1) b_1]) from (H.sel' [0, 0, 1, 2] rfl rfl))) wn ?_
 rintro _ σ10 ⟨_, ⟨a8, c9, rfl, rfl⟩, H, -⟩
 replace H : Hp S0 σ0 σ10 [Ch.own 0 n0 (Sl a8 r5 c9) r5, Ch.ro 0 (Sl (some ⟨b1, 0, none⟩) ([a_0, b_1] : List (List (Int × Int))) 2) ([a_0, b_1] : List (List (Int × Int))), Ch.ro 0 (Sl aa_0 a_0 ca_0) a_0, Ch.ro 0 (Sl ab_1 b_1 cb_1) b_1] := H
 refine st (v := (Sl a8 r5 c9)) (rv_assign rfl) ?_
 refine w_end ?_
 refine q_then ?_
 refine c_seq ?_
 refine rg ?_
 refine st (v := (Sl a8 r5 c9)) (rv_move rfl) ?_
 replace H := H.ownLow 0 0 0 rfl (Nat.zero_le _) (Nat.zero_le _)
 obtain ⟨r11, hx12, h'⟩ := bind_some h
 clear h
 have h := h'; clear h'
 have hc13 := c_slices_SortFunc_impl_Hit_impl_Hit__impl_compareHits (ax_0 := a8) (cx_0 := c9) hx12
 refine st_call (cx_call hc13 (ent_f hc13.fn rfl) hn0 (show Hp S0 σ0 _ ([Ch.own 0 0 (Sl a8 r5 c9) r5] ++ [Ch.ro 0 (Sl (some ⟨b1, 0, none⟩) ([a_0, b_1] : List (List (Int × Int))) 2) ([a_0, b_1] : List (List (Int × Int))), Ch.ro 0 (Sl aa_0 a_0 ca_0) a_0, Ch.ro 0 (Sl ab_1 b_1 cb_1) b_1]) from (H.sel' [0, 1, 2, 3] rfl rfl))) wn ?_
 rintro _ σ15 ⟨_, ⟨rfl, rfl, hn14⟩, H, -⟩
 replace H : Hp S0 σ0 σ15 [Ch.own 0 0 (Sl a8 r11 c9) r11, Ch.ro 0 (Sl (some ⟨b1, 0, none⟩) ([a_0, b_1] : List (List (Int × Int))) 2) ([a_0, b_1] : List (List (Int × Int))), Ch.ro 0 (Sl aa_0 a_0 ca_0) a_0, Ch.ro 0 (Sl ab_1 b_1 cb_1) b_1] := H
 have hsl : (Sl a8 r5 c9) = (Sl a8 r11 c9) := sl_len hn14.symm
 try rw [hsl]
 try rw [hsl] at H
 clear hsl
 refine w_end ?_
 refine q_then ?_
 refine c_seq ?_
 refine c_seq ?_
 refine rg ?_
 refine st (v := (Sl a8 r11 c9)) (rv_move rfl) ?_
 refine st (v := (I (r11.length : Int))) (rv_len Try.underlying23 rfl) ?_
 refine st (v := (I 0)) (rv_move rfl) ?_
 refine w_end ?_
 refine q_then ?_
 obtain ⟨o16, hj, h'⟩ := bind_some h
 clear h
 refine c_cut (fun e a w => e = .normal ∧ ∃ (ρ : Nat → Value) (σ : St) (aj1 : Option Addr) (cj2 : Nat), a = fr 32 (updL ρ [(5, (Sl aj1 o16 cj2))]) ∧ w = σ.w ∧ Hp S0 σ0 σ [Ch.own n0 n0 (Sl aj1 o16 cj2) o16]) ?_ ?_
 ·clear h'
  rename _ = some o16 => h
  refine c_blk ?_
  replace H := H.nilOwn (Int × Int) n0 n0
  refine wp_loopM _ h (fun s17 a w => ∃ (ρ : Nat → Value) (σ : St) (aj1 : Option Addr) (cj2 : Nat), a = fr 32 (updL ρ [(5, (Sl aj1 s17.1 cj2)), (15, (Sl a8 r11 c9)), (16, (I (r11.length : Int))), (17, (I s17.2))]) ∧ w = σ.w ∧ Hp S0 σ0 σ [Ch.own n0 n0 (Sl aj1 s17.1 cj2) s17.1, Ch.own 0 0 (Sl a8 r11 c9) r11]) ⟨_, σ15, none, 0, fr_join ⟨rfl, rfl, rfl, rfl, trivial⟩, rfl, H.sel' [0, 1] rfl rfl⟩ ?_
  clear h H
  rintro s17 a w o ⟨ρ, σ18, a19, c20, rfl, rfl, H⟩ h hres
  refine c_seq ?_
  refine rg ?_
  refine st (v := (B (decide (s17.2 < (r11.length : Int))))) (rv_lss (a := s17.2) (b := (r11.length : Int)) rfl rfl) ?_
  refine w_end ?_
  refine q_then ?_
  refine c_seq ?_
  refine cd_cond (decide (s17.2 < (r11.length : Int))) rfl (fun hb21 => ?_) (fun hb21 => ?_)
  ·replace h := bif_t hb21 h
   refine c_skip ?_
   refine q_then ?_
   refine c_seq ?_
   obtain ⟨o22, hj, h'⟩ := bind_some h
   clear h
   refine c_cut (fun e a w => e = .normal ∧ ∃ (ρ : Nat → Value) (σ : St) (aj1 : Option Addr) (cj2 : Nat), a = fr 32 (updL ρ [(5, (Sl aj1 o22 cj2)), (15, (Sl a8 r11 c9)), (16, (I (r11.length : Int))), (17, (I s17.2))]) ∧ w = σ.w ∧ Hp S0 σ0 σ [Ch.own n0 n0 (Sl aj1 o22 cj2) o22, Ch.own 0 0 (Sl a8 r11 c9) r11]) ?_ ?_
   ·clear h'
    rename _ = some o22 => h
    refine c_blk ?_
    refine c_seq ?_
    refine rg ?_
    obtain ⟨x23, hx24, h'⟩ := bind_some h
    clear h
    have h := h'; clear h'
    obtain ⟨b26, o27, hi25, -⟩ := (H.own 1 rfl).ix hx24
    refine st (v := (pt b26 o27)) (rv_ix Try.underlying23 ti40 rfl rfl hi25) ?_
    obtain ⟨_, ⟨_, _, rfl, rfl, rfl⟩, hl28, hc29⟩ := ((H.own 1 rfl).at hx24 hi25).cells
    refine st (v := (.agg #[(I x23.1), (I x23.2)])) (rv_load Try.underlying40 rfl ti40 rfl hl28 hc29) ?_
    refine st_ex (ex_alloc (cs := [(I 0), (I 0)]) H hn0 ti40 rfl) wn ?_
    rintro _ σ31 ⟨b30, rfl, H, -⟩
    refine st_exS (ex_store_box (k := 0) (cs := [(I 0), (I 0)]) (vs := [(I x23.1), (I x23.2)]) (cs' := [(I x23.1), (I x23.2)]) H (i := 0) rfl ti40 rfl rfl rfl rfl rfl (Nat.le_of_ble_eq_true rfl) (by simp [plain]) rfl) wn ?_
    rintro σ32 ⟨H, -⟩
    refine w_end ?_
    refine q_then ?_
    refine c_seq ?_
    refine rg ?_
    refine st (v := (Sl a19 s17.1 c20)) (rv_move rfl) ?_
    refine st (v := (pt b30 0)) (rv_fieldAddr (off := 0) (ft := 3) Try.underlying40 rfl ti3 rfl rfl) ?_
    have hc33 := H.cell (u := (I x23.1)) (o' := 0) 0 0 rfl rfl rfl
    refine st (v := (I x23.1)) (rv_load1 Try.underlying3 rfl rfl hc33) ?_
    obtain ⟨r34, hx35, h'⟩ := bind_some h
    clear h
    have h := h'; clear h'
    have hc36 := c_impl_placeIn (alist_0 := a19) (clist_0 := c20) hx35
    have hle := Nat.le_trans hn0 H.size
    refine st_call (cx_lend (Loan.lend Loan.nil) hc36 (ent_f hc36.fn rfl) (show Hp S0 σ0 _ ([Ch.own n0 n0 (Sl a19 s17.1 c20) s17.1] ++ ([] ++ [Ch.bx n0 b30 0 [(I x23.1), (I x23.2)] [] [], Ch.own 0 0 (Sl a8 r11 c9) r11])) from (H.sel' [1, 0, 2] rfl rfl)) (by rintro _ _ _ ⟨rfl, rfl⟩; exact trivial)) wn ?_
    rintro _ σ37 ⟨_, ⟨rfl, rfl⟩, H, -, -⟩
    replace H : Hp S0 σ0 σ37 [Ch.own n0 n0 (Sl a19 s17.1 c20) s17.1, Ch.bx n0 b30 0 [(I x23.1), (I x23.2)] [] [], Ch.own 0 0 (Sl a8 r11 c9) r11] := H
    clear hle
    replace H : Hp S0 σ0 σ37 [Ch.own n0 n0 (Sl a19 s17.1 c20) s17.1, Ch.bx n0 b30 0 [(I x23.1), (I x23.2)] [] [], Ch.own 0 0 (Sl a8 r11 c9) r11] := H
    refine st (v := (B (decide (r34 < 0)))) (rv_lss (a := r34) (b := 0) rfl rfl) ?_
    refine w_end ?_
    refine q_then ?_
    refine cd_cond (decide (r34 < 0)) rfl (fun hb38 => ?_) (fun hb38 => ?_)
    ·replace h := bif_t hb38 h
     refine rg ?_
     refine st (v := (Sl a19 s17.1 c20)) (rv_move rfl) ?_
     have hc39 := H.cells 1 rfl
     refine st (v := (.agg #[(I x23.1), (I x23.2)])) (rv_load (cs := [(I x23.1), (I x23.2)]) Try.underlying40 rfl ti40 rfl rfl hc39) ?_
     refine st_ex (ex_buildSlice (el := n0) (xs := ([(x23.1, x23.2)] : List (Int × Int))) (ps := [(0, (.agg #[(I x23.1), (I x23.2)]))]) (cs := [(I x23.1), (I x23.2)]) H hn0 Try.underlying23 ti40 rfl rfl (by kernel_rfl) (.cons (c := [(I x23.1), (I x23.2)]) ⟨[(I x23.1)], [(I x23.2)], rfl, rfl, rfl⟩ (.nil)) rfl) wn ?_
     rintro _ σ41 ⟨b40, rfl, H, -⟩
     obtain ⟨xs42, hx43, h'⟩ := bind_some h
     clear h
     have h := h'; clear h'
     refine st_ex (ex_append H (i := 1) rfl Try.underlying23 Try.underlying23 ti40 rfl rfl (by decide) (H.own 0 rfl).rd hx43 hn0 rfl rfl) wn ?_
     rintro _ σ46 ⟨a44, c45, rfl, H, -⟩
     refine st (v := (Sl a44 xs42 c45)) (rv_assign rfl) ?_
     refine w_end ?_
     refine q_blk ?_
     obtain rfl := Option.some.inj h
     exact ⟨rfl, _, σ46, a44, c45, fr_join ⟨rfl, rfl, rfl, rfl, trivial⟩, rfl, H.sel' [0, 3] rfl rfl⟩
    ·replace h := bif_f hb38 h
     refine c_skip ?_
     refine q_blk ?_
     obtain rfl := Option.some.inj h
     exact ⟨rfl, _, σ37, a19, c20, fr_join ⟨rfl, rfl, rfl, rfl, trivial⟩, rfl, H.sel' [0, 2] rfl rfl⟩
   ·clear hj
    have h := h'
    clear h' H
    rintro e a w ⟨rfl, ρ, σ47, a48, c49, rfl, rfl, H⟩
    refine q_then ?_
    refine rg ?_
    refine st (v := (I (w64 (s17.2 + 1)))) (rv_add (a := s17.2) (b := 1) rfl rfl) ?_
    refine st (v := (I (w64 (s17.2 + 1)))) (rv_move rfl) ?_
    refine w_end ?_
    refine q_then ?_
    obtain rfl := Option.some.inj h
    exact ⟨_, rfl, _, σ47, a48, c49, fr_join ⟨rfl, rfl, rfl, rfl, trivial⟩, rfl, H.sel' [0, 1] rfl rfl⟩
  ·replace h := bif_f hb21 h
   refine c_exit ?_
   refine q_then_x ?_
   refine q_then_x ?_
   refine q_blk_hit ?_
   obtain rfl := Option.some.inj h
   obtain rfl := hres _ rfl
   exact ⟨rfl, _, σ18, a19, c20, fr_join ⟨rfl, trivial⟩, rfl, H.sel' [0] rfl rfl⟩
 ·clear hj
  have h := h'
  clear h' H
  rintro e a w ⟨rfl, ρ, σ50, a51, c52, rfl, rfl, H⟩
  refine q_then ?_
  refine c_seq ?_
  refine rg ?_
  refine st (v := (Sl a51 o16 c52)) (rv_move rfl) ?_
  refine st (v := (Sl a51 o16 c52)) (rv_assign rfl) ?_
  refine w_end ?_
  refine q_then ?_
  refine c_ret ?_
  obtain rfl := Option.some.inj h
  exact fin_ret (v := (Sl a51 o16 c52)) (results_ok Try.results35 (res_tmp (v := (Sl a51 o16 c52)) rfl res_nil) rfl) ⟨a51, c52, rfl, rfl⟩ (H.sel' [0] rfl rfl)

theorem c_impl_validCount {k_0 : Int}  {r : Bool} (h : M.impl_validCount k_0 = some r) :
    Cal2 Try.prog 52 [(I k_0)] [] (fun n0 v L => v = (B r) ∧ L = []) := by
 refine cal2 (n := 9) Try.func52 rfl rfl rfl rfl ?_
 intro S0 σ0 n0 hn0 H
 unfold M.impl_validCount at h
 refine c_seq ?_
 refine rg ?_
 refine st (v := (B false)) (rv_assign rfl) ?_
 refine w_end ?_
 refine q_then ?_
 refine c_seq ?_
 refine rg ?_
 refine st (v := (I k_0)) (rv_move rfl) ?_
 refine st (v := (B (decide (1 ≤ k_0)))) (rv_geq (a := k_0) (b := 1) rfl rfl) ?_
 refine st (v := (B (decide (1 ≤ k_0)))) (rv_move rfl) ?_
 rcases Bool.eq_false_or_eq_true (decide (1 ≤ k_0)) with hb1 | hb1
 ·replace h := bif_t hb1 h
  refine st_g (v := (I k_0)) (congrArg some hb1) (rv_move rfl) ?_
  refine st_g (v := (B (decide (k_0 ≤ 16)))) (congrArg some hb1) (rv_leq (a := k_0) (b := 16) rfl rfl) ?_
  refine st (v := (B (decide (k_0 ≤ 16)))) (rv_pick_t (congrArg B hb1) rfl) ?_
  refine st (v := (B (decide (k_0 ≤ 16)))) (rv_assign rfl) ?_
  refine w_end ?_
  refine q_then ?_
  refine c_ret ?_
  obtain rfl := Option.some.inj h
  exact fin_ret (v := (B (decide (k_0 ≤ 16)))) (results_ok Try.results52 (res_tmp (v := (B (decide (k_0 ≤ 16)))) rfl res_nil) rfl) ⟨rfl, rfl⟩ (H.sel' [] rfl rfl)
 ·replace h := bif_f hb1 h
  refine st_skip (congrArg some hb1) ?_
  refine st_skip (congrArg some hb1) ?_
  refine st (v := (B false)) (rv_pick_f (congrArg B hb1) rfl) ?_
  refine st (v := (B false)) (rv_assign rfl) ?_
  refine w_end ?_
  refine q_then ?_
  refine c_ret ?_
  obtain rfl := Option.some.inj h
  exact fin_ret (v := (B false)) (results_ok Try.results52 (res_tmp (v := (B false)) rfl res_nil) rfl) ⟨rfl, rfl⟩ (H.sel' [] rfl rfl)

theorem c_impl_MergeHits {a_0 : List (Int × Int)} {b_1 : List (Int × Int)} {k_2 : Int} {aa_0 : Option Addr} {ca_0 : Nat} {ab_1 : Option Addr} {cb_1 : Nat} {r : (List (Int × Int))} (h : M.impl_MergeHits a_0 b_1 k_2 = some r) :
    Cal2 Try.prog 24 [(Sl aa_0 a_0 ca_0), (Sl ab_1 b_1 cb_1), (I k_2)] [Ch.ro 0 (Sl aa_0 a_0 ca_0) a_0, Ch.ro 0 (Sl ab_1 b_1 cb_1) b_1] (fun n0 v L => ∃ (az1 : Option Addr), ∃ (cz2 : Nat), v = (Sl az1 r cz2) ∧ L = [Ch.own n0 n0 (Sl az1 r cz2) r]) := by
 refine cal2 (n := 30) Try.func24 rfl rfl rfl rfl ?_
 intro S0 σ0 n0 hn0 H
 unfold M.impl_MergeHits at h
 refine c_seq ?_
 refine rg ?_
 refine st (v := (.slice none 0 0)) (rv_assign rfl) ?_
 refine w_end ?_
 refine q_then ?_
 refine c_seq ?_
 refine c_seq ?_
 obtain ⟨o1, hj, h'⟩ := bind_some h
 clear h
 refine c_cut (fun e a w => e = .normal ∧ ∃ (ρ : Nat → Value) (σ : St), a = fr 30 (updL ρ [(0, (Sl aa_0 a_0 ca_0)), (1, (Sl ab_1 b_1 cb_1)), (2, (I k_2)), (20, (B o1))]) ∧ w = σ.w ∧ Hp S0 σ0 σ [Ch.ro 0 (Sl aa_0 a_0 ca_0) a_0, Ch.ro 0 (Sl ab_1 b_1 cb_1) b_1]) ?_ ?_
 ·clear h'
  rename _ = some o1 => h
  refine rg ?_
  refine st (v := (Sl aa_0 a_0 ca_0)) (rv_move rfl) ?_
  obtain ⟨r2, hx3, h'⟩ := bind_some h
  clear h
  have h := h'; clear h'
  have hc4 := c_impl_ValidHits (alist_0 := aa_0) (clist_0 := ca_0) hx3
  refine st_call (cx_call hc4 (ent_f hc4.fn rfl) hn0 (show Hp S0 σ0 _ ([Ch.ro 0 (Sl aa_0 a_0 ca_0) a_0] ++ [Ch.ro 0 (Sl aa_0 a_0 ca_0) a_0, Ch.ro 0 (Sl ab_1 b_1 cb_1) b_1]) from (H.sel' [0, 0, 1] rfl rfl))) wn ?_
  rintro _ σ5 ⟨_, ⟨rfl, rfl⟩, H, -⟩
  replace H : Hp S0 σ0 σ5 [Ch.ro 0 (Sl aa_0 a_0 ca_0) a_0, Ch.ro 0 (Sl ab_1 b_1 cb_1) b_1] := H
  refine st (v := (B (!r2))) (rv_not rfl) ?_
  refine st (v := (B (!r2))) (rv_move rfl) ?_
  rcases Bool.eq_false_or_eq_true (!r2) with hb6 | hb6
  ·replace h := bif_t hb6 h
   refine st_skip (congrArg some hb6) ?_
   refine st_skip (congrArg some hb6) ?_
   refine st_skip (congrArg some hb6) ?_
   refine st (v := (B true)) (rv_pick_t (congrArg B hb6) rfl) ?_
   refine st (v := (B true)) (rv_move rfl) ?_
   refine st_skip rfl ?_
   refine st_skip rfl ?_
   refine st_skip rfl ?_
   refine st (v := (B true)) (rv_pick_t rfl rfl) ?_
   refine w_end ?_
   obtain rfl := Option.some.inj h
   exact ⟨rfl, _, σ5, fr_join ⟨rfl, rfl, rfl, rfl, trivial⟩, rfl, H.sel' [0, 1] rfl rfl⟩
  ·replace h := bif_f hb6 h
   refine st_g (v := (Sl ab_1 b_1 cb_1)) (congrArg some hb6) (rv_move rfl) ?_
   obtain ⟨r7, hx8, h'⟩ := bind_some h
   clear h
   have h := h'; clear h'
   have hc9 := c_impl_ValidHits (alist_0 := ab_1) (clist_0 := cb_1) hx8
   refine st_call (cx_call hc9 (ent_f hc9.fn rfl) hn0 (show Hp S0 σ0 _ ([Ch.ro 0 (Sl ab_1 b_1 cb_1) b_1] ++ [Ch.ro 0 (Sl aa_0 a_0 ca_0) a_0, Ch.ro 0 (Sl ab_1 b_1 cb_1) b_1]) from (H.sel' [1, 0, 1] rfl rfl))) (wanted_yes rfl (by exact (congrArg some hb6))) ?_
   rintro _ σ10 ⟨_, ⟨rfl, rfl⟩, H, -⟩
   replace H : Hp S0 σ0 σ10 [Ch.ro 0 (Sl aa_0 a_0 ca_0) a_0, Ch.ro 0 (Sl ab_1 b_1 cb_1) b_1] := H
   refine st_g (v := (B (!r7))) (congrArg some hb6) (rv_not rfl) ?_
   refine st (v := (B (!r7))) (rv_pick_f (congrArg B hb6) rfl) ?_
   refine st (v := (B (!r7))) (rv_move rfl) ?_
   rcases Bool.eq_false_or_eq_true (!r7) with hb11 | hb11
   ·replace h := bif_t hb11 h
    refine st_skip (congrArg some hb11) ?_
    refine st_skip (congrArg some hb11) ?_
    refine st_skip (congrArg some hb11) ?_
    refine st (v := (B true)) (rv_pick_t (congrArg B hb11) rfl) ?_
    refine w_end ?_
    obtain rfl := Option.some.inj h
    exact ⟨rfl, _, σ10, fr_join ⟨rfl, rfl, rfl, rfl, trivial⟩, rfl, H.sel' [0, 1] rfl rfl⟩
   ·replace h := bif_f hb11 h
    refine st_g (v := (I k_2)) (congrArg some hb11) (rv_move rfl) ?_
    obtain ⟨r12, hx13, h'⟩ := bind_some h
    clear h
    have h := h'; clear h'
    have hc14 := c_impl_validCount hx13
    refine st_call (cx_call hc14 (ent_f hc14.fn rfl) hn0 (show Hp S0 σ0 _ ([] ++ [Ch.ro 0 (Sl aa_0 a_0 ca_0) a_0, Ch.ro 0 (Sl ab_1 b_1 cb_1) b_1]) from (H.sel' [0, 1] rfl rfl))) (wanted_yes rfl (by exact (congrArg some hb11))) ?_
    rintro _ σ15 ⟨_, ⟨rfl, rfl⟩, H, -⟩
    replace H : Hp S0 σ0 σ15 [Ch.ro 0 (Sl aa_0 a_0 ca_0) a_0, Ch.ro 0 (Sl ab_1 b_1 cb_1) b_1] := H
    refine st_g (v := (B (!r12))) (congrArg some hb11) (rv_not rfl) ?_
    refine st (v := (B (!r12))) (rv_pick_f (congrArg B hb11) rfl) ?_
    refine w_end ?_
    obtain rfl := Option.some.inj h
    exact ⟨rfl, _, σ15, fr_join ⟨rfl, rfl, rfl, rfl, trivial⟩, rfl, H.sel' [0, 1] rfl rfl⟩
 ·clear hj
  have h := h'
  clear h' H
  rintro e a w ⟨rfl, ρ, σ16, rfl, rfl, H⟩
  refine q_then ?_
  refine cd_cond o1 rfl (fun hb17 => ?_) (fun hb17 => ?_)
  ·replace h := bif_t hb17 h
   refine c_seq ?_
   refine rg ?_
   refine st (v := (.slice none 0 0)) (rv_assign rfl) ?_
   refine w_end ?_
   refine q_then ?_
   refine c_ret ?_
   refine q_then_r ?_
   replace H := H.nilOwn (Int × Int) n0 n0
   obtain rfl := Option.some.inj h
   exact fin_ret (v := (.slice none 0 0)) (results_ok Try.results24 (res_tmp (v := (.slice none 0 0)) rfl res_nil) rfl) ⟨none, 0, rfl, rfl⟩ (H.sel' [0] rfl rfl)
  ·replace h := bif_f hb17 h
   refine c_skip ?_
   refine q_then ?_
   refine c_seq ?_
   refine rg ?_
   refine st (v := (Sl aa_0 a_0 ca_0)) (rv_move rfl) ?_
   refine st (v := (Sl ab_1 b_1 cb_1)) (rv_move rfl) ?_
   obtain ⟨r18, hx19, h'⟩ := bind_some h
   clear h
   have h := h'; clear h'
   have hc20 := c_impl_mergedHits (aa_0 := aa_0) (ca_0 := ca_0) (ab_1 := ab_1) (cb_1 := cb_1) hx19
   refine st_call (cx_call hc20 (ent_f hc20.fn rfl) hn0 (show Hp S0 σ0 _ ([Ch.ro 0 (Sl aa_0 a_0 ca_0) a_0, Ch.ro 0 (Sl ab_1 b_1 cb_1) b_1] ++ [Ch.ro 0 (Sl aa_0 a_0 ca_0) a_0, Ch.ro 0 (Sl ab_1 b_1 cb_1) b_1]) from (H.sel' [0, 1, 0, 1] rfl rfl))) wn ?_
   rintro _ σ23 ⟨_, ⟨a21, c22, rfl, rfl⟩, H, -⟩
   replace H : Hp S0 σ0 σ23 [Ch.own n0 n0 (Sl a21 r18 c22) r18, Ch.ro 0 (Sl aa_0 a_0 ca_0) a_0, Ch.ro 0 (Sl ab_1 b_1 cb_1) b_1] := H
   refine st (v := (Sl a21 r18 c22)) (rv_assign rfl) ?_
   refine w_end ?_
   refine q_then ?_
   refine c_seq ?_
   refine rg ?_
   refine st (v := (Sl a21 r18 c22)) (rv_move rfl) ?_
   refine st (v := (I k_2)) (rv_move rfl) ?_
   refine st (v := (Sl a21 r18 c22)) (rv_move rfl) ?_
   refine st (v := (I (r18.length : Int))) (rv_len Try.underlying23 rfl) ?_
   refine st (v := (I (min k_2 (r18.length : Int)))) (rv_min rfl rfl) ?_
   obtain ⟨xs24, hx25, h'⟩ := bind_some h
   clear h
   have h := h'; clear h'
   obtain ⟨a26, c27, hs28, hR29, hb30⟩ := (H.own 0 rfl).slice hx25
   replace H := (H.front (i := 0) rfl).turn (d := Ch.own n0 n0 (Sl a26 xs24 c27) xs24) (fun _ => hR29) hb30; clear hR29 hb30
   refine st (v := (Sl a26 xs24 c27)) (rv_slice_h Try.underlying23 ti40 hs28 rfl rfl) ?_
   refine st (v := (Sl a26 xs24 c27)) (rv_assign rfl) ?_
   refine w_end ?_
   refine q_then ?_
   refine c_ret ?_
   obtain rfl := Option.some.inj h
   exact fin_ret (v := (Sl a26 xs24 c27)) (results_ok Try.results24 (res_tmp (v := (Sl a26 xs24 c27)) rfl res_nil) rfl) ⟨a26, c27, rfl, rfl⟩ (H.sel' [0] rfl rfl)

theorem c_laws_equalHits {a_0 : List (Int × Int)} {b_1 : List (Int × Int)} {aa_0 : Option Addr} {ca_0 : Nat} {ab_1 : Option Addr} {cb_1 : Nat} {r : Bool} (h : M.laws_equalHits a_0 b_1 = some r) :
    Cal2 Try.prog 25 [(Sl aa_0 a_0 ca_0), (Sl ab_1 b_1 cb_1)] [Ch.ro 0 (Sl aa_0 a_0 ca_0) a_0, Ch.ro 0 (Sl ab_1 b_1 cb_1) b_1] (fun n0 v L => v = (B r) ∧ L = []) := by
 refine cal2 (n := 26) Try.func25 rfl rfl rfl rfl ?_
 intro S0 σ0 n0 hn0 H
 unfold M.laws_equalHits at h
 refine c_seq ?_
 refine rg ?_
 refine st (v := (B false)) (rv_assign rfl) ?_
 refine w_end ?_
 refine q_then ?_
 refine c_seq ?_
 refine c_seq ?_
 refine rg ?_
 refine st (v := (Sl aa_0 a_0 ca_0)) (rv_move rfl) ?_
 refine st (v := (I (a_0.length : Int))) (rv_len Try.underlying23 rfl) ?_
 refine st (v := (Sl ab_1 b_1 cb_1)) (rv_move rfl) ?_
 refine st (v := (I (b_1.length : Int))) (rv_len Try.underlying23 rfl) ?_
 refine st (v := (B ((a_0.length : Int) != (b_1.length : Int)))) (rv_neq (a := (a_0.length : Int)) (b := (b_1.length : Int)) rfl rfl) ?_
 refine w_end ?_
 refine q_then ?_
 refine cd_cond ((a_0.length : Int) != (b_1.length : Int)) rfl (fun hb1 => ?_) (fun hb1 => ?_)
 ·replace h := bif_t hb1 h
  refine c_seq ?_
  refine rg ?_
  refine st (v := (B false)) (rv_assign rfl) ?_
  refine w_end ?_
  refine q_then ?_
  refine c_ret ?_
  refine q_then_r ?_
  obtain rfl := Option.some.inj h
  exact fin_ret (v := (B false)) (results_ok Try.results25 (res_tmp (v := (B false)) rfl res_nil) rfl) ⟨rfl, rfl⟩ (H.sel' [] rfl rfl)
 ·replace h := bif_f hb1 h
  refine c_skip ?_
  refine q_then ?_
  refine c_seq ?_
  refine c_seq ?_
  refine rg ?_
  refine st (v := (I 0)) (rv_assign rfl) ?_
  refine w_end ?_
  refine q_then ?_
  obtain ⟨o2, hj, h'⟩ := bind_some h
  clear h
  refine c_cut (fun e a w => (∃ t, o2 = (.inl t) ∧ e = .normal ∧ ∃ (ρ : Nat → Value) (σ : St), a = fr 26 (updL ρ []) ∧ w = σ.w ∧ Hp S0 σ0 σ []) ∨ (∃ t, o2 = (.inr t) ∧ e = .ret ∧ ∃ (ρ : Nat → Value) (σ : St), a = fr 26 (updL ρ [(4, (B t))]) ∧ w = σ.w ∧ Hp S0 σ0 σ [])) ?_ ?_
  ·clear h'
   rename _ = some o2 => h
   refine c_blk ?_
   refine wp_loopM _ h (fun s3 a w => ∃ (ρ : Nat → Value) (σ : St), a = fr 26 (updL ρ [(0, (Sl aa_0 a_0 ca_0)), (1, (Sl ab_1 b_1 cb_1)), (5, (I s3))]) ∧ w = σ.w ∧ Hp S0 σ0 σ [Ch.ro 0 (Sl aa_0 a_0 ca_0) a_0, Ch.ro 0 (Sl ab_1 b_1 cb_1) b_1]) ⟨_, σ0, fr_join ⟨rfl, rfl, rfl, trivial⟩, rfl, H.sel' [0, 1] rfl rfl⟩ ?_
   clear h H
   rintro s3 a w o ⟨ρ, σ4, rfl, rfl, H⟩ h hres
   refine c_seq ?_
   refine c_seq ?_
   refine rg ?_
   refine st (v := (I s3)) (rv_move rfl) ?_
   refine st (v := (Sl aa_0 a_0 ca_0)) (rv_move rfl) ?_
   refine st (v := (I (a_0.length : Int))) (rv_len Try.underlying23 rfl) ?_
   refine st (v := (B (decide (s3 < (a_0.length : Int))))) (rv_lss (a := s3) (b := (a_0.length : Int)) rfl rfl) ?_
   refine w_end ?_
   refine q_then ?_
   refine cd_cond (decide (s3 < (a_0.length : Int))) rfl (fun hb5 => ?_) (fun hb5 => ?_)
   ·replace h := bif_t hb5 h
    refine c_skip ?_
    refine q_then ?_
    refine c_seq ?_
    refine c_blk ?_
    refine c_seq ?_
    refine rgP (σ := σ4) 8 (by kernel_rfl) (by kernel_rfl) (by kernel_rfl) ?_
    refine sq (v := (Sl aa_0 a_0 ca_0)) (rv_move rfl) ?_
    refine sq (v := (I s3)) (rv_move rfl) ?_
    obtain ⟨x6, hx7, h'⟩ := bind_some h
    clear h
    have h := h'; clear h'
    obtain ⟨b9, o10, hi8, -⟩ := (H.ro 0 rfl).ix hx7
    refine sq (v := (pt b9 o10)) (rv_ix Try.underlying23 ti40 rfl rfl hi8) ?_
    obtain ⟨_, ⟨_, _, rfl, rfl, rfl⟩, hl11, hc12⟩ := ((H.ro 0 rfl).at hx7 hi8).cells
    refine sq (v := (.agg #[(I x6.1), (I x6.2)])) (rv_load Try.underlying40 rfl ti40 rfl hl11 hc12) ?_
    refine sq (v := (Sl ab_1 b_1 cb_1)) (rv_move rfl) ?_
    refine sq (v := (I s3)) (rv_move rfl) ?_
    obtain ⟨x13, hx14, h'⟩ := bind_some h
    clear h
    have h := h'; clear h'
    obtain ⟨b16, o17, hi15, -⟩ := (H.ro 1 rfl).ix hx14
    refine sq (v := (pt b16 o17)) (rv_ix Try.underlying23 ti40 rfl rfl hi15) ?_
    obtain ⟨_, ⟨_, _, rfl, rfl, rfl⟩, hl18, hc19⟩ := ((H.ro 1 rfl).at hx14 hi15).cells
    refine sq (v := (.agg #[(I x13.1), (I x13.2)])) (rv_load Try.underlying40 rfl ti40 rfl hl18 hc19) ?_
    refine sq_end ?_
    intro σ20 hm21
    replace H := H.grow (hm21.mono fun _ h => h); clear hm21
    refine st (v := (B (!(([x6.1, x6.2] : List Int) == ([x13.1, x13.2] : List Int))))) (rv_neqI (xs := ([x6.1, x6.2] : List Int)) (ys := ([x13.1, x13.2] : List Int)) (by kernel_rfl) (by kernel_rfl) (by kernel_rfl) rfl (by kernel_rfl) (by exact intfs40) rfl rfl) ?_
    refine w_end ?_
    refine q_then ?_
    refine cd_cond (!(([x6.1, x6.2] : List Int) == ([x13.1, x13.2] : List Int))) rfl (fun hb22 => ?_) (fun hb22 => ?_)
    ·replace h := bif_t hb22 h
     refine c_seq ?_
     refine rg ?_
     refine st (v := (B false)) (rv_assign rfl) ?_
     refine w_end ?_
     refine q_then ?_
     refine c_ret ?_
     refine q_blk_r ?_
     refine q_then_r ?_
     refine q_then_r ?_
     refine q_blk_r ?_
     obtain rfl := Option.some.inj h
     obtain rfl := hres _ rfl
     exact .inr (⟨_, rfl, rfl, _, σ20, fr_join ⟨rfl, trivial⟩, rfl, H.sel' [] rfl rfl⟩)
    ·replace h := bif_f hb22 h
     refine c_skip ?_
     refine q_blk ?_
     refine q_then ?_
     refine rg ?_
     refine st (v := (I s3)) (rv_move rfl) ?_
     refine st (v := (I (w64 (s3 + 1)))) (rv_add (a := s3) (b := 1) rfl rfl) ?_
     refine st (v := (I (w64 (s3 + 1)))) (rv_assign rfl) ?_
     refine w_end ?_
     refine q_then ?_
     obtain rfl := Option.some.inj h
     exact ⟨_, rfl, _, σ20, fr_join ⟨rfl, rfl, rfl, trivial⟩, rfl, H.sel' [0, 1] rfl rfl⟩
   ·replace h := bif_f hb5 h
    refine c_exit ?_
    refine q_then_x ?_
    refine q_then_x ?_
    refine q_blk_hit ?_
    obtain rfl := Option.some.inj h
    obtain rfl := hres _ rfl
    exact .inl ⟨_, rfl, rfl, _, σ4, fr_join trivial, rfl, H.sel' [] rfl rfl⟩
  ·clear hj
   have h := h'
   clear h' H
   rintro e a w (⟨t23, rfl, rfl, ρ, σ24, rfl, rfl, H⟩ | ⟨t25, rfl, rfl, ρ, σ26, rfl, rfl, H⟩)
   ·replace h := selim_l h
    refine q_then ?_
    refine c_seq ?_
    refine rg ?_
    refine st (v := (B true)) (rv_assign rfl) ?_
    refine w_end ?_
    refine q_then ?_
    refine c_ret ?_
    obtain rfl := Option.some.inj h
    exact fin_ret (v := (B true)) (results_ok Try.results25 (res_tmp (v := (B true)) rfl res_nil) rfl) ⟨rfl, rfl⟩ (H.sel' [] rfl rfl)
   ·replace h := selim_r h
    refine q_then_r ?_
    obtain rfl := Option.some.inj h
    exact fin_ret (v := (B t25)) (results_ok Try.results25 (res_tmp (v := (B t25)) rfl res_nil) rfl) ⟨rfl, rfl⟩ (H.sel' [] rfl rfl)

theorem c_spec_validHits {list_0 : List (Int × Int)} {alist_0 : Option Addr} {clist_0 : Nat} {r : Bool} (h : M.spec_validHits list_0 = some r) :
    Cal2 Try.prog 41 [(Sl alist_0 list_0 clist_0)] [Ch.ro 0 (Sl alist_0 list_0 clist_0) list_0] (fun n0 v L => v = (B r) ∧ L = []) := by
 refine cal2 (n := 63) Try.func41 rfl rfl rfl rfl ?_
 intro S0 σ0 n0 hn0 H
 unfold M.spec_validHits at h
 refine c_seq ?_
 refine rg ?_
 refine st (v := (B false)) (rv_assign rfl) ?_
 refine w_end ?_
 refine q_then ?_
 refine c_seq ?_
 refine c_seq ?_
 refine rg ?_
 refine st (v := (I 0)) (rv_assign rfl) ?_
 refine w_end ?_
 refine q_then ?_
 obtain ⟨o1, hj, h'⟩ := bind_some h
 clear h
 refine c_cut (fun e a w => (∃ t, o1 = (.inl t) ∧ e = .normal ∧ ∃ (ρ : Nat → Value) (σ : St), a = fr 63 (updL ρ [(0, (Sl alist_0 list_0 clist_0))]) ∧ w = σ.w ∧ Hp S0 σ0 σ [Ch.ro 0 (Sl alist_0 list_0 clist_0) list_0]) ∨ (∃ t, o1 = (.inr t) ∧ e = .ret ∧ ∃ (ρ : Nat → Value) (σ : St), a = fr 63 (updL ρ [(2, (B t))]) ∧ w = σ.w ∧ Hp S0 σ0 σ [])) ?_ ?_
 ·clear h'
  rename _ = some o1 => h
  refine c_blk ?_
  refine wp_loopM _ h (fun s2 a w => ∃ (ρ : Nat → Value) (σ : St), a = fr 63 (updL ρ [(0, (Sl alist_0 list_0 clist_0)), (3, (I s2))]) ∧ w = σ.w ∧ Hp S0 σ0 σ [Ch.ro 0 (Sl alist_0 list_0 clist_0) list_0]) ⟨_, σ0, fr_join ⟨rfl, rfl, trivial⟩, rfl, H.sel' [0] rfl rfl⟩ ?_
  clear h H
  rintro s2 a w o ⟨ρ, σ3, rfl, rfl, H⟩ h hres
  refine c_seq ?_
  refine c_seq ?_
  refine rg ?_
  refine st (v := (I s2)) (rv_move rfl) ?_
  refine st (v := (Sl alist_0 list_0 clist_0)) (rv_move rfl) ?_
  refine st (v := (I (list_0.length : Int))) (rv_len Try.underlying23 rfl) ?_
  refine st (v := (B (decide (s2 < (list_0.length : Int))))) (rv_lss (a := s2) (b := (list_0.length : Int)) rfl rfl) ?_
  refine w_end ?_
  refine q_then ?_
  refine cd_cond (decide (s2 < (list_0.length : Int))) rfl (fun hb4 => ?_) (fun hb4 => ?_)
  ·replace h := bif_t hb4 h
   refine c_skip ?_
   refine q_then ?_
   refine c_seq ?_
   refine c_blk ?_
   refine c_seq ?_
   refine c_seq ?_
   obtain ⟨o5, hj, h'⟩ := bind_some h
   clear h
   refine c_cut (fun e a w => e = .normal ∧ ∃ (ρ : Nat → Value) (σ : St), a = fr 63 (updL ρ [(0, (Sl alist_0 list_0 clist_0)), (3, (I s2)), (43, (B o5))]) ∧ w = σ.w ∧ Hp S0 σ0 σ [Ch.ro 0 (Sl alist_0 list_0 clist_0) list_0]) ?_ ?_
   ·clear h'
    rename _ = some o5 => h
    obtain ⟨x6, hx7, h'⟩ := bind_some h
    clear h
    have h := h'; clear h'
    obtain ⟨b9, o10, hi8, -⟩ := (H.ro 0 rfl).ix hx7
    have hc11 := ((H.ro 0 rfl).at hx7 hi8).fst.int
    obtain ⟨r12, hx13, h'⟩ := bind_some h
    clear h
    have h := h'; clear h'
    have hc14 := c_spec_inRange hx13
    rcases Bool.eq_false_or_eq_true (!r12) with hb15 | hb15
    ·replace h := bif_t hb15 h
     have Hs := H
     refine rg2 (σ := σ3) (Nm := Unit) 29 [5] [[false], [true]] [[(0, 0)], [(0, 0)], [(0, 0)], [(0, 0)], [(0, 0)], [(0, 1)], [(1, 1)], [(1, 1)], [(1, 1)], [(1, 1)], [(1, 1)], [(1, 1)], [(1, 1)], [(1, 1)], [(1, 1)], [(1, 1)], [(1, 1)], [(1, 1)], [(1, 1)], [(1, 1)], [(1, 1)], [(1, 1)], [(1, 1)], [(1, 1)], [(1, 1)], [(1, 1)], [(1, 1)], [(1, 1)], [(1, 1)]] 1 [fun _ => fun σm => Hp S0 σ0 σm [Ch.ro 0 (Sl alist_0 list_0 clist_0) list_0] ∧ Md (cov []) σ3 σm, fun _ => fun σm => Hp S0 σ0 σm [Ch.ro 0 (Sl alist_0 list_0 clist_0) list_0] ∧ Md (cov []) σ3 σm] [fun _ => (Sl alist_0 list_0 clist_0), fun _ => (I s2), fun _ => (pt b9 o10), fun _ => (pt b9 (o10 + 0)), fun _ => (I x6.1), fun _ => (B r12), fun _ => (B (!r12)), fun _ => (B (!r12)), fun _ => undef, fun _ => undef, fun _ => undef, fun _ => undef, fun _ => undef, fun _ => undef, fun _ => undef, fun _ => (B true), fun _ => (B true), fun _ => undef, fun _ => undef, fun _ => undef, fun _ => undef, fun _ => undef, fun _ => undef, fun _ => undef, fun _ => undef, fun _ => undef, fun _ => undef, fun _ => undef, fun _ => undef] () (by kernel_rfl) (by kernel_rfl) ?_ ?_ ?_
     ·intro σm m0
      exact ⟨H.grow (m0.mono fun _ h => h.elim), m0⟩
     ·refine ac rfl (by
        intro k _nm ρ σm hJ hoff hdep
        have e0 := look_off (N := 63) (hoff 0 rfl) rfl
        exact dp_v (v := (Sl alist_0 list_0 clist_0)) wn (rv_move e0) rfl hJ) ?_
      refine ac rfl (by
        intro k _nm ρ σm hJ hoff hdep
        have e3 := look_off (N := 63) (hoff 3 rfl) rfl
        exact dp_v (v := (I s2)) wn (rv_move e3) rfl hJ) ?_
      refine ac rfl (by
        intro k _nm ρ σm hJ hoff hdep
        have e11 := hdep 0 rfl rfl 11 rfl
        have e12 := hdep 1 rfl rfl 12 rfl
        exact dp_v (v := (pt b9 o10)) wn (rv_ix Try.underlying23 ti40 e11 e12 hi8) rfl hJ) ?_
      refine ac rfl (by
        intro k _nm ρ σm hJ hoff hdep
        have e13 := hdep 2 rfl rfl 13 rfl
        exact dp_v (v := (pt b9 (o10 + 0))) wn (rv_fieldAddr (off := 0) (ft := 3) Try.underlying40 rfl ti3 rfl e13) rfl hJ) ?_
      refine all_cons (by
        refine ⟨?_, ?_⟩
        ·intro _nm ρ σm hJ hoff hdep
         have e14 := hdep 3 rfl rfl 14 rfl
         obtain ⟨H, m⟩ := id hJ
         replace hc11 := (Hs.ro 0 rfl).hmd hx7 hi8 (k := 0) (by decide) hc11 m
         exact dp_v (v := (I x6.1)) wn (rv_load1 Try.underlying3 rfl e14 hc11) rfl hJ
        trivial) ?_
      refine all_cons (by
        refine ⟨?_, ?_⟩
        ·intro _nm ρ σm hJ hoff hdep
         have e15 : look 63 ρ 15 = (I x6.1) := hdep 4 rfl rfl 15 rfl
         obtain ⟨H, m⟩ := id hJ
         refine dp_cx wn (cx_call hc14 (ent_f hc14.fn (by show [look 63 ρ 15, (I 1), (I 99)] = _; rw [e15])) hn0 (show Hp S0 σ0 _ ([] ++ [Ch.ro 0 (Sl alist_0 list_0 clist_0) list_0]) from (H.sel' [0] rfl rfl))) ?_
         rintro _ σq ⟨_, ⟨rfl, rfl⟩, H2, m2⟩
         exact ⟨_, (), rfl, rfl, ⟨H2.sel' [0] rfl rfl, m.comp0 m2⟩, stab [0, 1, 2, 3, 4] (by kernel_rfl) ⟨rfl, rfl, rfl, rfl, rfl, trivial⟩⟩
        trivial) ?_
      refine ac rfl (by
        intro k _nm ρ σm hJ hoff hdep
        have e16 := hdep 5 rfl rfl 16 rfl
        exact dp_v (v := (B (!r12))) wn (rv_not e16) rfl hJ) ?_
      refine ac rfl (by
        intro k _nm ρ σm hJ hoff hdep
        have e17 := hdep 6 rfl rfl 17 rfl
        exact dp_v (v := (B (!r12))) wn (rv_move e17) rfl hJ) ?_
      refine ac rfl (by
        intro k _nm ρ σm hJ hoff hdep
        have e18 := hdep 7 rfl rfl 18 rfl
        exact dp_skip (wanted_no rfl (yv_of rfl (e18.trans (congrArg B hb15)))) rfl hJ) ?_
      refine ac rfl (by
        intro k _nm ρ σm hJ hoff hdep
        have e18 := hdep 7 rfl rfl 18 rfl
        exact dp_skip (wanted_no rfl (yv_of rfl (e18.trans (congrArg B hb15)))) rfl hJ) ?_
      refine ac rfl (by
        intro k _nm ρ σm hJ hoff hdep
        have e18 := hdep 7 rfl rfl 18 rfl
        exact dp_skip (wanted_no rfl (yv_of rfl (e18.trans (congrArg B hb15)))) rfl hJ) ?_
      refine ac rfl (by
        intro k _nm ρ σm hJ hoff hdep
        have e18 := hdep 7 rfl rfl 18 rfl
        exact dp_skip (wanted_no rfl (yv_of rfl (e18.trans (congrArg B hb15)))) rfl hJ) ?_
      refine ac rfl (by
        intro k _nm ρ σm hJ hoff hdep
        have e18 := hdep 7 rfl rfl 18 rfl
        exact dp_skip (wanted_no rfl (yv_of rfl (e18.trans (congrArg B hb15)))) rfl hJ) ?_
      refine ac rfl (by
        intro k _nm ρ σm hJ hoff hdep
        have e18 := hdep 7 rfl rfl 18 rfl
        exact dp_skip (wanted_no rfl (yv_of rfl (e18.trans (congrArg B hb15)))) rfl hJ) ?_
      refine ac rfl (by
        intro k _nm ρ σm hJ hoff hdep
        have e18 := hdep 7 rfl rfl 18 rfl
        exact dp_skip (wanted_no rfl (yv_of rfl (e18.trans (congrArg B hb15)))) rfl hJ) ?_
      refine ac rfl (by
        intro k _nm ρ σm hJ hoff hdep
        have e18 := hdep 7 rfl rfl 18 rfl
        exact dp_v (v := (B true)) wn (rv_pick_t (e18.trans (congrArg B hb15)) rfl) rfl hJ) ?_
      refine ac rfl (by
        intro k _nm ρ σm hJ hoff hdep
        have e26 := hdep 15 rfl rfl 26 rfl
        exact dp_v (v := (B true)) wn (rv_move e26) rfl hJ) ?_
      refine ac rfl (by
        intro k _nm ρ σm hJ hoff hdep
        have e27 := hdep 16 rfl rfl 27 rfl
        exact dp_skip (wanted_no rfl (yv_of rfl e27)) rfl hJ) ?_
      refine ac rfl (by
        intro k _nm ρ σm hJ hoff hdep
        have e27 := hdep 16 rfl rfl 27 rfl
        exact dp_skip (wanted_no rfl (yv_of rfl e27)) rfl hJ) ?_
      refine ac rfl (by
        intro k _nm ρ σm hJ hoff hdep
        have e27 := hdep 16 rfl rfl 27 rfl
        exact dp_skip (wanted_no rfl (yv_of rfl e27)) rfl hJ) ?_
      refine ac rfl (by
        intro k _nm ρ σm hJ hoff hdep
        have e30 := hdep 19 rfl rfl 30 rfl
        exact dp_skip (wanted_u rfl (yv_undef rfl e30)) rfl hJ) ?_
      refine ac rfl (by
        intro k _nm ρ σm hJ hoff hdep
        have e30 := hdep 19 rfl rfl 30 rfl
        exact dp_skip (wanted_u rfl (yv_undef rfl e30)) rfl hJ) ?_
      refine ac rfl (by
        intro k _nm ρ σm hJ hoff hdep
        have e30 := hdep 19 rfl rfl 30 rfl
        exact dp_skip (wanted_u rfl (yv_undef rfl e30)) rfl hJ) ?_
      refine ac rfl (by
        intro k _nm ρ σm hJ hoff hdep
        have e30 := hdep 19 rfl rfl 30 rfl
        exact dp_skip (wanted_u rfl (yv_undef rfl e30)) rfl hJ) ?_
      refine ac rfl (by
        intro k _nm ρ σm hJ hoff hdep
        have e30 := hdep 19 rfl rfl 30 rfl
        exact dp_skip (wanted_u rfl (yv_undef rfl e30)) rfl hJ) ?_
      refine ac rfl (by
        intro k _nm ρ σm hJ hoff hdep
        have e30 := hdep 19 rfl rfl 30 rfl
        exact dp_skip (wanted_u rfl (yv_undef rfl e30)) rfl hJ) ?_
      refine ac rfl (by
        intro k _nm ρ σm hJ hoff hdep
        have e30 := hdep 19 rfl rfl 30 rfl
        exact dp_skip (wanted_u rfl (yv_undef rfl e30)) rfl hJ) ?_
      refine ac rfl (by
        intro k _nm ρ σm hJ hoff hdep
        have e30 := hdep 19 rfl rfl 30 rfl
        exact dp_skip (wanted_u rfl (yv_undef rfl e30)) rfl hJ) ?_
      refine ac rfl (by
        intro k _nm ρ σm hJ hoff hdep
        have e30 := hdep 19 rfl rfl 30 rfl
        exact dp_skip (wanted_u rfl (yv_undef rfl e30)) rfl hJ) ?_
      exact all_nil
     ·intro _nm ρ σ16 hJ hoff hrel
      have e0 := look_off (N := 63) (hoff 0 rfl) rfl
      have e3 := look_off (N := 63) (hoff 3 rfl) rfl
      have e27 := hrel 16 rfl 27 rfl
      have e30 := hrel 19 rfl 30 rfl
      have e35 := hrel 24 rfl 35 rfl
      have e39 := hrel 28 rfl 39 rfl
      obtain ⟨H, -⟩ := (show Hp S0 σ0 σ16 [Ch.ro 0 (Sl alist_0 list_0 clist_0) list_0] ∧ Md (cov []) σ3 σ16 from hJ)
      clear hJ Hs
      rw [fr_lookL (L := [(0, (Sl alist_0 list_0 clist_0)), (3, (I s2)), (27, (B true)), (30, undef), (35, undef), (39, undef)]) ⟨e0, e3, e27, e30, e35, e39, trivial⟩]
      clear hoff hrel e0 e3 e27 e30 e35 e39
      refine st_skip_u rfl ?_
      refine st_skip_u rfl ?_
      refine st_skip rfl ?_
      refine st (v := (B true)) (rv_pick_t rfl rfl) ?_
      refine w_end ?_
      obtain rfl := Option.some.inj h
      exact ⟨rfl, _, σ16, fr_join ⟨rfl, rfl, rfl, trivial⟩, rfl, H.sel' [0] rfl rfl⟩
    ·replace h := bif_f hb15 h
     obtain ⟨x17, hx18, h'⟩ := bind_some h
     clear h
     have h := h'; clear h'
     obtain ⟨b20, o21, hi19, -⟩ := (H.ro 0 rfl).ix hx18
     have hc22 := ((H.ro 0 rfl).at hx18 hi19).snd.int
     obtain ⟨r23, hx24, h'⟩ := bind_some h
     clear h
     have h := h'; clear h'
     have hc25 := c_spec_inRange hx24
     rcases Bool.eq_false_or_eq_true (!r23) with hb26 | hb26
     ·replace h := bif_t hb26 h
      have Hs := H
      refine rg2 (σ := σ3) (Nm := Unit) 29 [5, 13] [[false, false], [true, false], [true, true]] [[(0, 0)], [(0, 0)], [(0, 0)], [(0, 0)], [(0, 0)], [(0, 1)], [(1, 1)], [(1, 1)], [(1, 1)], [(1, 1)], [(1, 1)], [(1, 1)], [(1, 1)], [(1, 2)], [(2, 2)], [(2, 2)], [(2, 2)], [(2, 2)], [(2, 2)], [(2, 2)], [(2, 2)], [(2, 2)], [(2, 2)], [(2, 2)], [(2, 2)], [(2, 2)], [(2, 2)], [(2, 2)], [(2, 2)]] 2 [fun _ => fun σm => Hp S0 σ0 σm [Ch.ro 0 (Sl alist_0 list_0 clist_0) list_0] ∧ Md (cov []) σ3 σm, fun _ => fun σm => Hp S0 σ0 σm [Ch.ro 0 (Sl alist_0 list_0 clist_0) list_0] ∧ Md (cov []) σ3 σm, fun _ => fun σm => Hp S0 σ0 σm [Ch.ro 0 (Sl alist_0 list_0 clist_0) list_0] ∧ Md (cov []) σ3 σm] [fun _ => (Sl alist_0 list_0 clist_0), fun _ => (I s2), fun _ => (pt b9 o10), fun _ => (pt b9 (o10 + 0)), fun _ => (I x6.1), fun _ => (B r12), fun _ => (B (!r12)), fun _ => (B (!r12)), fun _ => (Sl alist_0 list_0 clist_0), fun _ => (I s2), fun _ => (pt b20 o21), fun _ => (pt b20 (o21 + 1)), fun _ => (I x17.2), fun _ => (B r23), fun _ => (B (!r23)), fun _ => (B (!r23)), fun _ => (B (!r23)), fun _ => undef, fun _ => undef, fun _ => undef, fun _ => undef, fun _ => undef, fun _ => undef, fun _ => undef, fun _ => undef, fun _ => undef, fun _ => undef, fun _ => undef, fun _ => undef] () (by kernel_rfl) (by kernel_rfl) ?_ ?_ ?_
      ·intro σm m0
       exact ⟨H.grow (m0.mono fun _ h => h.elim), m0⟩
      ·refine ac rfl (by
         intro k _nm ρ σm hJ hoff hdep
         have e0 := look_off (N := 63) (hoff 0 rfl) rfl
         exact dp_v (v := (Sl alist_0 list_0 clist_0)) wn (rv_move e0) rfl hJ) ?_
       refine ac rfl (by
         intro k _nm ρ σm hJ hoff hdep
         have e3 := look_off (N := 63) (hoff 3 rfl) rfl
         exact dp_v (v := (I s2)) wn (rv_move e3) rfl hJ) ?_
       refine ac rfl (by
         intro k _nm ρ σm hJ hoff hdep
         have e11 := hdep 0 rfl rfl 11 rfl
         have e12 := hdep 1 rfl rfl 12 rfl
         exact dp_v (v := (pt b9 o10)) wn (rv_ix Try.underlying23 ti40 e11 e12 hi8) rfl hJ) ?_
       refine ac rfl (by
         intro k _nm ρ σm hJ hoff hdep
         have e13 := hdep 2 rfl rfl 13 rfl
         exact dp_v (v := (pt b9 (o10 + 0))) wn (rv_fieldAddr (off := 0) (ft := 3) Try.underlying40 rfl ti3 rfl e13) rfl hJ) ?_
       refine all_cons (by
         refine ⟨?_, ?_⟩
         ·intro _nm ρ σm hJ hoff hdep
          have e14 := hdep 3 rfl rfl 14 rfl
          obtain ⟨H, m⟩ := id hJ
          replace hc11 := (Hs.ro 0 rfl).hmd hx7 hi8 (k := 0) (by decide) hc11 m
          exact dp_v (v := (I x6.1)) wn (rv_load1 Try.underlying3 rfl e14 hc11) rfl hJ
         trivial) ?_
       refine all_cons (by
         refine ⟨?_, ?_⟩
         ·intro _nm ρ σm hJ hoff hdep
          have e15 : look 63 ρ 15 = (I x6.1) := hdep 4 rfl rfl 15 rfl
          obtain ⟨H, m⟩ := id hJ
          refine dp_cx wn (cx_call hc14 (ent_f hc14.fn (by show [look 63 ρ 15, (I 1), (I 99)] = _; rw [e15])) hn0 (show Hp S0 σ0 _ ([] ++ [Ch.ro 0 (Sl alist_0 list_0 clist_0) list_0]) from (H.sel' [0] rfl rfl))) ?_
          rintro _ σq ⟨_, ⟨rfl, rfl⟩, H2, m2⟩
          exact ⟨_, (), rfl, rfl, ⟨H2.sel' [0] rfl rfl, m.comp0 m2⟩, stab [0, 1, 2, 3, 4] (by kernel_rfl) ⟨rfl, rfl, rfl, rfl, rfl, trivial⟩⟩
         trivial) ?_
       refine ac rfl (by
         intro k _nm ρ σm hJ hoff hdep
         have e16 := hdep 5 rfl rfl 16 rfl
         exact dp_v (v := (B (!r12))) wn (rv_not e16) rfl hJ) ?_
       refine ac rfl (by
         intro k _nm ρ σm hJ hoff hdep
         have e17 := hdep 6 rfl rfl 17 rfl
         exact dp_v (v := (B (!r12))) wn (rv_move e17) rfl hJ) ?_
       refine ac rfl (by
         intro k _nm ρ σm hJ hoff hdep
         have e0 := look_off (N := 63) (hoff 0 rfl) rfl
         have e18 := hdep 7 rfl rfl 18 rfl
         exact dp_v (v := (Sl alist_0 list_0 clist_0)) (wanted_yes rfl (yv_of rfl (e18.trans (congrArg B hb15)))) (rv_move e0) rfl hJ) ?_
       refine ac rfl (by
         intro k _nm ρ σm hJ hoff hdep
         have e3 := look_off (N := 63) (hoff 3 rfl) rfl
         have e18 := hdep 7 rfl rfl 18 rfl
         exact dp_v (v := (I s2)) (wanted_yes rfl (yv_of rfl (e18.trans (congrArg B hb15)))) (rv_move e3) rfl hJ) ?_
       refine ac rfl (by
         intro k _nm ρ σm hJ hoff hdep
         have e19 := hdep 8 rfl rfl 19 rfl
         have e20 := hdep 9 rfl rfl 20 rfl
         have e18 := hdep 7 rfl rfl 18 rfl
         exact dp_v (v := (pt b20 o21)) (wanted_yes rfl (yv_of rfl (e18.trans (congrArg B hb15)))) (rv_ix Try.underlying23 ti40 e19 e20 hi19) rfl hJ) ?_
       refine ac rfl (by
         intro k _nm ρ σm hJ hoff hdep
         have e21 := hdep 10 rfl rfl 21 rfl
         have e18 := hdep 7 rfl rfl 18 rfl
         exact dp_v (v := (pt b20 (o21 + 1))) (wanted_yes rfl (yv_of rfl (e18.trans (congrArg B hb15)))) (rv_fieldAddr (off := 1) (ft := 3) Try.underlying40 rfl ti3 rfl e21) rfl hJ) ?_
       refine all_cons (by
         refine ⟨?_, ?_⟩
         ·intro _nm ρ σm hJ hoff hdep
          have e22 := hdep 11 rfl rfl 22 rfl
          have e18 := hdep 7 rfl rfl 18 rfl
          obtain ⟨H, m⟩ := id hJ
          replace hc22 := (Hs.ro 0 rfl).hmd hx18 hi19 (k := 1) (by decide) hc22 m
          exact dp_v (v := (I x17.2)) (wanted_yes rfl (yv_of rfl (e18.trans (congrArg B hb15)))) (rv_load1 Try.underlying3 rfl e22 hc22) rfl hJ
         trivial) ?_
       refine all_cons (by
         refine ⟨?_, ?_⟩
         ·intro _nm ρ σm hJ hoff hdep
          have e23 : look 63 ρ 23 = (I x17.2) := hdep 12 rfl rfl 23 rfl
          have e18 := hdep 7 rfl rfl 18 rfl
          obtain ⟨H, m⟩ := id hJ
          refine dp_cx (wanted_yes rfl (yv_of rfl (e18.trans (congrArg B hb15)))) (cx_call hc25 (ent_f hc25.fn (by show [look 63 ρ 23, (I 0), (I 1000000)] = _; rw [e23])) hn0 (show Hp S0 σ0 _ ([] ++ [Ch.ro 0 (Sl alist_0 list_0 clist_0) list_0]) from (H.sel' [0] rfl rfl))) ?_
          rintro _ σq ⟨_, ⟨rfl, rfl⟩, H2, m2⟩
          exact ⟨_, (), rfl, rfl, ⟨H2.sel' [0] rfl rfl, m.comp0 m2⟩, stab [0, 1, 2, 3, 4, 5, 6, 7, 8, 9, 10, 11, 12] (by kernel_rfl) ⟨rfl, rfl, rfl, rfl, rfl, rfl, rfl, rfl, rfl, rfl, rfl, rfl, rfl, trivial⟩⟩
         trivial) ?_
       refine ac rfl (by
         intro k _nm ρ σm hJ hoff hdep
         have e24 := hdep 13 rfl rfl 24 rfl
         have e18 := hdep 7 rfl rfl 18 rfl
         exact dp_v (v := (B (!r23))) (wanted_yes rfl (yv_of rfl (e18.trans (congrArg B hb15)))) (rv_not e24) rfl hJ) ?_
       refine ac rfl (by
         intro k _nm ρ σm hJ hoff hdep
         have e18 := hdep 7 rfl rfl 18 rfl
         have e25 := hdep 14 rfl rfl 25 rfl
         exact dp_v (v := (B (!r23))) wn (rv_pick_f (e18.trans (congrArg B hb15)) e25) rfl hJ) ?_
       refine ac rfl (by
         intro k _nm ρ σm hJ hoff hdep
         have e26 := hdep 15 rfl rfl 26 rfl
         exact dp_v (v := (B (!r23))) wn (rv_move e26) rfl hJ) ?_
       refine ac rfl (by
         intro k _nm ρ σm hJ hoff hdep
         have e27 := hdep 16 rfl rfl 27 rfl
         exact dp_skip (wanted_no rfl (yv_of rfl (e27.trans (congrArg B hb26)))) rfl hJ) ?_
       refine ac rfl (by
         intro k _nm ρ σm hJ hoff hdep
         have e27 := hdep 16 rfl rfl 27 rfl
         exact dp_skip (wanted_no rfl (yv_of rfl (e27.trans (congrArg B hb26)))) rfl hJ) ?_
       refine ac rfl (by
         intro k _nm ρ σm hJ hoff hdep
         have e27 := hdep 16 rfl rfl 27 rfl
         exact dp_skip (wanted_no rfl (yv_of rfl (e27.trans (congrArg B hb26)))) rfl hJ) ?_
       refine ac rfl (by
         intro k _nm ρ σm hJ hoff hdep
         have e30 := hdep 19 rfl rfl 30 rfl
         exact dp_skip (wanted_u rfl (yv_undef rfl e30)) rfl hJ) ?_
       refine ac rfl (by
         intro k _nm ρ σm hJ hoff hdep
         have e30 := hdep 19 rfl rfl 30 rfl
         exact dp_skip (wanted_u rfl (yv_undef rfl e30)) rfl hJ) ?_
       refine ac rfl (by
         intro k _nm ρ σm hJ hoff hdep
         have e30 := hdep 19 rfl rfl 30 rfl
         exact dp_skip (wanted_u rfl (yv_undef rfl e30)) rfl hJ) ?_
       refine ac rfl (by
         intro k _nm ρ σm hJ hoff hdep
         have e30 := hdep 19 rfl rfl 30 rfl
         exact dp_skip (wanted_u rfl (yv_undef rfl e30)) rfl hJ) ?_
       refine ac rfl (by
         intro k _nm ρ σm hJ hoff hdep
         have e30 := hdep 19 rfl rfl 30 rfl
         exact dp_skip (wanted_u rfl (yv_undef rfl e30)) rfl hJ) ?_
       refine ac rfl (by
         intro k _nm ρ σm hJ hoff hdep
         have e30 := hdep 19 rfl rfl 30 rfl
         exact dp_skip (wanted_u rfl (yv_undef rfl e30)) rfl hJ) ?_
       refine ac rfl (by
         intro k _nm ρ σm hJ hoff hdep
         have e30 := hdep 19 rfl rfl 30 rfl
         exact dp_skip (wanted_u rfl (yv_undef rfl e30)) rfl hJ) ?_
       refine ac rfl (by
         intro k _nm ρ σm hJ hoff hdep
         have e30 := hdep 19 rfl rfl 30 rfl
         exact dp_skip (wanted_u rfl (yv_undef rfl e30)) rfl hJ) ?_
       refine ac rfl (by
         intro k _nm ρ σm hJ hoff hdep
         have e30 := hdep 19 rfl rfl 30 rfl
         exact dp_skip (wanted_u rfl (yv_undef rfl e30)) rfl hJ) ?_
       exact all_nil
      ·intro _nm ρ σ27 hJ hoff hrel
       have e0 := look_off (N := 63) (hoff 0 rfl) rfl
       have e3 := look_off (N := 63) (hoff 3 rfl) rfl
       have e27 := hrel 16 rfl 27 rfl
       have e30 := hrel 19 rfl 30 rfl
       have e35 := hrel 24 rfl 35 rfl
       have e39 := hrel 28 rfl 39 rfl
       obtain ⟨H, -⟩ := (show Hp S0 σ0 σ27 [Ch.ro 0 (Sl alist_0 list_0 clist_0) list_0] ∧ Md (cov []) σ3 σ27 from hJ)
       clear hJ Hs
       rw [fr_lookL (L := [(0, (Sl alist_0 list_0 clist_0)), (3, (I s2)), (27, (B (!r23))), (30, undef), (35, undef), (39, undef)]) ⟨e0, e3, e27, e30, e35, e39, trivial⟩]
       clear hoff hrel e0 e3 e27 e30 e35 e39
       refine st_skip_u rfl ?_
       refine st_skip_u rfl ?_
       refine st_skip (congrArg some hb26) ?_
       refine st (v := (B true)) (rv_pick_t (congrArg B hb26) rfl) ?_
       refine w_end ?_
       obtain rfl := Option.some.inj h
       exact ⟨rfl, _, σ27, fr_join ⟨rfl, rfl, rfl, trivial⟩, rfl, H.sel' [0] rfl rfl⟩
     ·replace h := bif_f hb26 h
      rcases Bool.eq_false_or_eq_true (decide (0 < s2)) with hb28 | hb28
      ·replace h := bif_t hb28 h
       obtain ⟨x29, hx30, h'⟩ := bind_some h
       clear h
       have h := h'; clear h'
       obtain ⟨b32, o33, hi31, -⟩ := (H.ro 0 rfl).ix hx30
       obtain ⟨_, ⟨_, _, rfl, rfl, rfl⟩, hl34, hc35⟩ := ((H.ro 0 rfl).at hx30 hi31).cells
       obtain ⟨x36, hx37, h'⟩ := bind_some h
       clear h
       have h := h'; clear h'
       obtain ⟨b39, o40, hi38, -⟩ := (H.ro 0 rfl).ix hx37
       obtain ⟨_, ⟨_, _, rfl, rfl, rfl⟩, hl41, hc42⟩ := ((H.ro 0 rfl).at hx37 hi38).cells
       have Hs := H
       refine rg2 (σ := σ3) (Nm := Unit) 29 [5, 13] [[false, false], [true, false], [true, true]] [[(0, 0)], [(0, 0)], [(0, 0)], [(0, 0)], [(0, 0)], [(0, 1)], [(1, 1)], [(1, 1)], [(1, 1)], [(1, 1)], [(1, 1)], [(1, 1)], [(1, 1)], [(1, 2)], [(2, 2)], [(2, 2)], [(2, 2)], [(2, 2)], [(2, 2)], [(2, 2)], [(2, 2)], [(2, 2)], [(2, 2)], [(2, 2)], [(2, 2)], [(2, 2)], [(2, 2)], [(2, 2)], [(2, 2)]] 2 [fun _ => fun σm => Hp S0 σ0 σm [Ch.ro 0 (Sl alist_0 list_0 clist_0) list_0] ∧ Md (cov []) σ3 σm, fun _ => fun σm => Hp S0 σ0 σm [Ch.ro 0 (Sl alist_0 list_0 clist_0) list_0] ∧ Md (cov []) σ3 σm, fun _ => fun σm => Hp S0 σ0 σm [Ch.ro 0 (Sl alist_0 list_0 clist_0) list_0] ∧ Md (cov []) σ3 σm] [fun _ => (Sl alist_0 list_0 clist_0), fun _ => (I s2), fun _ => (pt b9 o10), fun _ => (pt b9 (o10 + 0)), fun _ => (I x6.1), fun _ => (B r12), fun _ => (B (!r12)), fun _ => (B (!r12)), fun _ => (Sl alist_0 list_0 clist_0), fun _ => (I s2), fun _ => (pt b20 o21), fun _ => (pt b20 (o21 + 1)), fun _ => (I x17.2), fun _ => (B r23), fun _ => (B (!r23)), fun _ => (B (!r23)), fun _ => (B (!r23)), fun _ => (I s2), fun _ => (B (decide (0 < s2))), fun _ => (B (decide (0 < s2))), fun _ => (Sl alist_0 list_0 clist_0), fun _ => (I s2), fun _ => (I (w64 (s2 - 1))), fun _ => (pt b32 o33), fun _ => (.agg #[(I x29.1), (I x29.2)]), fun _ => (Sl alist_0 list_0 clist_0), fun _ => (I s2), fun _ => (pt b39 o40), fun _ => (.agg #[(I x36.1), (I x36.2)])] () (by kernel_rfl) (by kernel_rfl) ?_ ?_ ?_
       ·intro σm m0
        exact ⟨H.grow (m0.mono fun _ h => h.elim), m0⟩
       ·refine ac rfl (by
          intro k _nm ρ σm hJ hoff hdep
          have e0 := look_off (N := 63) (hoff 0 rfl) rfl
          exact dp_v (v := (Sl alist_0 list_0 clist_0)) wn (rv_move e0) rfl hJ) ?_
        refine ac rfl (by
          intro k _nm ρ σm hJ hoff hdep
          have e3 := look_off (N := 63) (hoff 3 rfl) rfl
          exact dp_v (v := (I s2)) wn (rv_move e3) rfl hJ) ?_
        refine ac rfl (by
          intro k _nm ρ σm hJ hoff hdep
          have e11 := hdep 0 rfl rfl 11 rfl
          have e12 := hdep 1 rfl rfl 12 rfl
          exact dp_v (v := (pt b9 o10)) wn (rv_ix Try.underlying23 ti40 e11 e12 hi8) rfl hJ) ?_
        refine ac rfl (by
          intro k _nm ρ σm hJ hoff hdep
          have e13 := hdep 2 rfl rfl 13 rfl
          exact dp_v (v := (pt b9 (o10 + 0))) wn (rv_fieldAddr (off := 0) (ft := 3) Try.underlying40 rfl ti3 rfl e13) rfl hJ) ?_
        refine all_cons (by
          refine ⟨?_, ?_⟩
          ·intro _nm ρ σm hJ hoff hdep
           have e14 := hdep 3 rfl rfl 14 rfl
           obtain ⟨H, m⟩ := id hJ
           replace hc11 := (Hs.ro 0 rfl).hmd hx7 hi8 (k := 0) (by decide) hc11 m
           exact dp_v (v := (I x6.1)) wn (rv_load1 Try.underlying3 rfl e14 hc11) rfl hJ
          trivial) ?_
        refine all_cons (by
          refine ⟨?_, ?_⟩
          ·intro _nm ρ σm hJ hoff hdep
           have e15 : look 63 ρ 15 = (I x6.1) := hdep 4 rfl rfl 15 rfl
           obtain ⟨H, m⟩ := id hJ
           refine dp_cx wn (cx_call hc14 (ent_f hc14.fn (by show [look 63 ρ 15, (I 1), (I 99)] = _; rw [e15])) hn0 (show Hp S0 σ0 _ ([] ++ [Ch.ro 0 (Sl alist_0 list_0 clist_0) list_0]) from (H.sel' [0] rfl rfl))) ?_
           rintro _ σq ⟨_, ⟨rfl, rfl⟩, H2, m2⟩
           exact ⟨_, (), rfl, rfl, ⟨H2.sel' [0] rfl rfl, m.comp0 m2⟩, stab [0, 1, 2, 3, 4] (by kernel_rfl) ⟨rfl, rfl, rfl, rfl, rfl, trivial⟩⟩
          trivial) ?_
        refine ac rfl (by
          intro k _nm ρ σm hJ hoff hdep
          have e16 := hdep 5 rfl rfl 16 rfl
          exact dp_v (v := (B (!r12))) wn (rv_not e16) rfl hJ) ?_
        refine ac rfl (by
          intro k _nm ρ σm hJ hoff hdep
          have e17 := hdep 6 rfl rfl 17 rfl
          exact dp_v (v := (B (!r12))) wn (rv_move e17) rfl hJ) ?_
        refine ac rfl (by
          intro k _nm ρ σm hJ hoff hdep
          have e0 := look_off (N := 63) (hoff 0 rfl) rfl
          have e18 := hdep 7 rfl rfl 18 rfl
          exact dp_v (v := (Sl alist_0 list_0 clist_0)) (wanted_yes rfl (yv_of rfl (e18.trans (congrArg B hb15)))) (rv_move e0) rfl hJ) ?_
        refine ac rfl (by
          intro k _nm ρ σm hJ hoff hdep
          have e3 := look_off (N := 63) (hoff 3 rfl) rfl
          have e18 := hdep 7 rfl rfl 18 rfl
          exact dp_v (v := (I s2)) (wanted_yes rfl (yv_of rfl (e18.trans (congrArg B hb15)))) (rv_move e3) rfl hJ) ?_
        refine ac rfl (by
          intro k _nm ρ σm hJ hoff hdep
          have e19 := hdep 8 rfl rfl 19 rfl
          have e20 := hdep 9 rfl rfl 20 rfl
          have e18 := hdep 7 rfl rfl 18 rfl
          exact dp_v (v := (pt b20 o21)) (wanted_yes rfl (yv_of rfl (e18.trans (congrArg B hb15)))) (rv_ix Try.underlying23 ti40 e19 e20 hi19) rfl hJ) ?_
        refine ac rfl (by
          intro k _nm ρ σm hJ hoff hdep
          have e21 := hdep 10 rfl rfl 21 rfl
          have e18 := hdep 7 rfl rfl 18 rfl
          exact dp_v (v := (pt b20 (o21 + 1))) (wanted_yes rfl (yv_of rfl (e18.trans (congrArg B hb15)))) (rv_fieldAddr (off := 1) (ft := 3) Try.underlying40 rfl ti3 rfl e21) rfl hJ) ?_
        refine all_cons (by
          refine ⟨?_, ?_⟩
          ·intro _nm ρ σm hJ hoff hdep
           have e22 := hdep 11 rfl rfl 22 rfl
           have e18 := hdep 7 rfl rfl 18 rfl
           obtain ⟨H, m⟩ := id hJ
           replace hc22 := (Hs.ro 0 rfl).hmd hx18 hi19 (k := 1) (by decide) hc22 m
           exact dp_v (v := (I x17.2)) (wanted_yes rfl (yv_of rfl (e18.trans (congrArg B hb15)))) (rv_load1 Try.underlying3 rfl e22 hc22) rfl hJ
          trivial) ?_
        refine all_cons (by
          refine ⟨?_, ?_⟩
          ·intro _nm ρ σm hJ hoff hdep
           have e23 : look 63 ρ 23 = (I x17.2) := hdep 12 rfl rfl 23 rfl
           have e18 := hdep 7 rfl rfl 18 rfl
           obtain ⟨H, m⟩ := id hJ
           refine dp_cx (wanted_yes rfl (yv_of rfl (e18.trans (congrArg B hb15)))) (cx_call hc25 (ent_f hc25.fn (by show [look 63 ρ 23, (I 0), (I 1000000)] = _; rw [e23])) hn0 (show Hp S0 σ0 _ ([] ++ [Ch.ro 0 (Sl alist_0 list_0 clist_0) list_0]) from (H.sel' [0] rfl rfl))) ?_
           rintro _ σq ⟨_, ⟨rfl, rfl⟩, H2, m2⟩
           exact ⟨_, (), rfl, rfl, ⟨H2.sel' [0] rfl rfl, m.comp0 m2⟩, stab [0, 1, 2, 3, 4, 5, 6, 7, 8, 9, 10, 11, 12] (by kernel_rfl) ⟨rfl, rfl, rfl, rfl, rfl, rfl, rfl, rfl, rfl, rfl, rfl, rfl, rfl, trivial⟩⟩
          trivial) ?_
        refine ac rfl (by
          intro k _nm ρ σm hJ hoff hdep
          have e24 := hdep 13 rfl rfl 24 rfl
          have e18 := hdep 7 rfl rfl 18 rfl
          exact dp_v (v := (B (!r23))) (wanted_yes rfl (yv_of rfl (e18.trans (congrArg B hb15)))) (rv_not e24) rfl hJ) ?_
        refine ac rfl (by
          intro k _nm ρ σm hJ hoff hdep
          have e18 := hdep 7 rfl rfl 18 rfl
          have e25 := hdep 14 rfl rfl 25 rfl
          exact dp_v (v := (B (!r23))) wn (rv_pick_f (e18.trans (congrArg B hb15)) e25) rfl hJ) ?_
        refine ac rfl (by
          intro k _nm ρ σm hJ hoff hdep
          have e26 := hdep 15 rfl rfl 26 rfl
          exact dp_v (v := (B (!r23))) wn (rv_move e26) rfl hJ) ?_
        refine ac rfl (by
          intro k _nm ρ σm hJ hoff hdep
          have e3 := look_off (N := 63) (hoff 3 rfl) rfl
          have e27 := hdep 16 rfl rfl 27 rfl
          exact dp_v (v := (I s2)) (wanted_yes rfl (yv_of rfl (e27.trans (congrArg B hb26)))) (rv_move e3) rfl hJ) ?_
        refine ac rfl (by
          intro k _nm ρ σm hJ hoff hdep
          have e28 := hdep 17 rfl rfl 28 rfl
          have e27 := hdep 16 rfl rfl 27 rfl
          exact dp_v (v := (B (decide (0 < s2)))) (wanted_yes rfl (yv_of rfl (e27.trans (congrArg B hb26)))) (rv_gtr (a := s2) (b := 0) e28 rfl) rfl hJ) ?_
        refine ac rfl (by
          intro k _nm ρ σm hJ hoff hdep
          have e29 := hdep 18 rfl rfl 29 rfl
          have e27 := hdep 16 rfl rfl 27 rfl
          exact dp_v (v := (B (decide (0 < s2)))) (wanted_yes rfl (yv_of rfl (e27.trans (congrArg B hb26)))) (rv_move e29) rfl hJ) ?_
        refine ac rfl (by
          intro k _nm ρ σm hJ hoff hdep
          have e0 := look_off (N := 63) (hoff 0 rfl) rfl
          have e30 := hdep 19 rfl rfl 30 rfl
          exact dp_v (v := (Sl alist_0 list_0 clist_0)) (wanted_yes rfl (yv_of rfl (e30.trans (congrArg B hb28)))) (rv_move e0) rfl hJ) ?_
        refine ac rfl (by
          intro k _nm ρ σm hJ hoff hdep
          have e3 := look_off (N := 63) (hoff 3 rfl) rfl
          have e30 := hdep 19 rfl rfl 30 rfl
          exact dp_v (v := (I s2)) (wanted_yes rfl (yv_of rfl (e30.trans (congrArg B hb28)))) (rv_move e3) rfl hJ) ?_
        refine ac rfl (by
          intro k _nm ρ σm hJ hoff hdep
          have e32 := hdep 21 rfl rfl 32 rfl
          have e30 := hdep 19 rfl rfl 30 rfl
          exact dp_v (v := (I (w64 (s2 - 1)))) (wanted_yes rfl (yv_of rfl (e30.trans (congrArg B hb28)))) (rv_sub (a := s2) (b := 1) e32 rfl) rfl hJ) ?_
        refine ac rfl (by
          intro k _nm ρ σm hJ hoff hdep
          have e31 := hdep 20 rfl rfl 31 rfl
          have e33 := hdep 22 rfl rfl 33 rfl
          have e30 := hdep 19 rfl rfl 30 rfl
          exact dp_v (v := (pt b32 o33)) (wanted_yes rfl (yv_of rfl (e30.trans (congrArg B hb28)))) (rv_ix Try.underlying23 ti40 e31 e33 hi31) rfl hJ) ?_
        refine all_cons (by
          refine ⟨?_, ?_⟩
          ·intro _nm ρ σm hJ hoff hdep
           have e34 := hdep 23 rfl rfl 34 rfl
           have e30 := hdep 19 rfl rfl 30 rfl
           obtain ⟨H, m⟩ := id hJ
           replace hc35 := fun j hj => (Hs.ro 0 rfl).hmd hx30 hi31 (k := j) (Nat.lt_of_lt_of_eq hj hl34) (hc35 j hj) m
           exact dp_v (v := (.agg #[(I x29.1), (I x29.2)])) (wanted_yes rfl (yv_of rfl (e30.trans (congrArg B hb28)))) (rv_load Try.underlying40 rfl ti40 e34 hl34 hc35) rfl hJ
          trivial) ?_
        refine ac rfl (by
          intro k _nm ρ σm hJ hoff hdep
          have e0 := look_off (N := 63) (hoff 0 rfl) rfl
          have e30 := hdep 19 rfl rfl 30 rfl
          exact dp_v (v := (Sl alist_0 list_0 clist_0)) (wanted_yes rfl (yv_of rfl (e30.trans (congrArg B hb28)))) (rv_move e0) rfl hJ) ?_
        refine ac rfl (by
          intro k _nm ρ σm hJ hoff hdep
          have e3 := look_off (N := 63) (hoff 3 rfl) rfl
          have e30 := hdep 19 rfl rfl 30 rfl
          exact dp_v (v := (I s2)) (wanted_yes rfl (yv_of rfl (e30.trans (congrArg B hb28)))) (rv_move e3) rfl hJ) ?_
        refine ac rfl (by
          intro k _nm ρ σm hJ hoff hdep
          have e36 := hdep 25 rfl rfl 36 rfl
          have e37 := hdep 26 rfl rfl 37 rfl
          have e30 := hdep 19 rfl rfl 30 rfl
          exact dp_v (v := (pt b39 o40)) (wanted_yes rfl (yv_of rfl (e30.trans (congrArg B hb28)))) (rv_ix Try.underlying23 ti40 e36 e37 hi38) rfl hJ) ?_
        refine all_cons (by
          refine ⟨?_, ?_⟩
          ·intro _nm ρ σm hJ hoff hdep
           have e38 := hdep 27 rfl rfl 38 rfl
           have e30 := hdep 19 rfl rfl 30 rfl
           obtain ⟨H, m⟩ := id hJ
           replace hc42 := fun j hj => (Hs.ro 0 rfl).hmd hx37 hi38 (k := j) (Nat.lt_of_lt_of_eq hj hl41) (hc42 j hj) m
           exact dp_v (v := (.agg #[(I x36.1), (I x36.2)])) (wanted_yes rfl (yv_of rfl (e30.trans (congrArg B hb28)))) (rv_load Try.underlying40 rfl ti40 e38 hl41 hc42) rfl hJ
          trivial) ?_
        exact all_nil
       ·intro _nm ρ σ43 hJ hoff hrel
        have e0 := look_off (N := 63) (hoff 0 rfl) rfl
        have e3 := look_off (N := 63) (hoff 3 rfl) rfl
        have e27 := hrel 16 rfl 27 rfl
        have e30 := hrel 19 rfl 30 rfl
        have e35 := hrel 24 rfl 35 rfl
        have e39 := hrel 28 rfl 39 rfl
        obtain ⟨H, -⟩ := (show Hp S0 σ0 σ43 [Ch.ro 0 (Sl alist_0 list_0 clist_0) list_0] ∧ Md (cov []) σ3 σ43 from hJ)
        clear hJ Hs
        rw [fr_lookL (L := [(0, (Sl alist_0 list_0 clist_0)), (3, (I s2)), (27, (B (!r23))), (30, (B (decide (0 < s2)))), (35, (.agg #[(I x29.1), (I x29.2)])), (39, (.agg #[(I x36.1), (I x36.2)]))]) ⟨e0, e3, e27, e30, e35, e39, trivial⟩]
        clear hoff hrel e0 e3 e27 e30 e35 e39
        obtain ⟨r44, hx45, h'⟩ := bind_some h
        clear h
        have h := h'; clear h'
        have hc46 := c_spec_nearer hx45
        refine st_call (cx_call hc46 (ent_f hc46.fn rfl) hn0 (show Hp S0 σ0 _ ([] ++ [Ch.ro 0 (Sl alist_0 list_0 clist_0) list_0]) from (H.sel' [0] rfl rfl))) (wanted_yes rfl (by exact (congrArg some hb28))) ?_
        rintro _ σ47 ⟨_, ⟨rfl, rfl⟩, H, -⟩
        replace H : Hp S0 σ0 σ47 [Ch.ro 0 (Sl alist_0 list_0 clist_0) list_0] := H
        refine st_g (v := (B (!r44))) (congrArg some hb28) (rv_not rfl) ?_
        refine st_g (v := (B (!r44))) (congrArg some hb26) (rv_pick_t (congrArg B hb28) rfl) ?_
        refine st (v := (B (!r44))) (rv_pick_f (congrArg B hb26) rfl) ?_
        refine w_end ?_
        obtain rfl := Option.some.inj h
        exact ⟨rfl, _, σ47, fr_join ⟨rfl, rfl, rfl, trivial⟩, rfl, H.sel' [0] rfl rfl⟩
      ·replace h := bif_f hb28 h
       have Hs := H
       refine rg2 (σ := σ3) (Nm := Unit) 29 [5, 13] [[false, false], [true, false], [true, true]] [[(0, 0)], [(0, 0)], [(0, 0)], [(0, 0)], [(0, 0)], [(0, 1)], [(1, 1)], [(1, 1)], [(1, 1)], [(1, 1)], [(1, 1)], [(1, 1)], [(1, 1)], [(1, 2)], [(2, 2)], [(2, 2)], [(2, 2)], [(2, 2)], [(2, 2)], [(2, 2)], [(2, 2)], [(2, 2)], [(2, 2)], [(2, 2)], [(2, 2)], [(2, 2)], [(2, 2)], [(2, 2)], [(2, 2)]] 2 [fun _ => fun σm => Hp S0 σ0 σm [Ch.ro 0 (Sl alist_0 list_0 clist_0) list_0] ∧ Md (cov []) σ3 σm, fun _ => fun σm => Hp S0 σ0 σm [Ch.ro 0 (Sl alist_0 list_0 clist_0) list_0] ∧ Md (cov []) σ3 σm, fun _ => fun σm => Hp S0 σ0 σm [Ch.ro 0 (Sl alist_0 list_0 clist_0) list_0] ∧ Md (cov []) σ3 σm] [fun _ => (Sl alist_0 list_0 clist_0), fun _ => (I s2), fun _ => (pt b9 o10), fun _ => (pt b9 (o10 + 0)), fun _ => (I x6.1), fun _ => (B r12), fun _ => (B (!r12)), fun _ => (B (!r12)), fun _ => (Sl alist_0 list_0 clist_0), fun _ => (I s2), fun _ => (pt b20 o21), fun _ => (pt b20 (o21 + 1)), fun _ => (I x17.2), fun _ => (B r23), fun _ => (B (!r23)), fun _ => (B (!r23)), fun _ => (B (!r23)), fun _ => (I s2), fun _ => (B (decide (0 < s2))), fun _ => (B (decide (0 < s2))), fun _ => undef, fun _ => undef, fun _ => undef, fun _ => undef, fun _ => undef, fun _ => undef, fun _ => undef, fun _ => undef, fun _ => undef] () (by kernel_rfl) (by kernel_rfl) ?_ ?_ ?_
       ·intro σm m0
        exact ⟨H.grow (m0.mono fun _ h => h.elim), m0⟩
       ·refine ac rfl (by
          intro k _nm ρ σm hJ hoff hdep
          have e0 := look_off (N := 63) (hoff 0 rfl) rfl
          exact dp_v (v := (Sl alist_0 list_0 clist_0)) wn (rv_move e0) rfl hJ) ?_
        refine ac rfl (by
          intro k _nm ρ σm hJ hoff hdep
          have e3 := look_off (N := 63) (hoff 3 rfl) rfl
          exact dp_v (v := (I s2)) wn (rv_move e3) rfl hJ) ?_
        refine ac rfl (by
          intro k _nm ρ σm hJ hoff hdep
          have e11 := hdep 0 rfl rfl 11 rfl
          have e12 := hdep 1 rfl rfl 12 rfl
          exact dp_v (v := (pt b9 o10)) wn (rv_ix Try.underlying23 ti40 e11 e12 hi8) rfl hJ) ?_
        refine ac rfl (by
          intro k _nm ρ σm hJ hoff hdep
          have e13 := hdep 2 rfl rfl 13 rfl
          exact dp_v (v := (pt b9 (o10 + 0))) wn (rv_fieldAddr (off := 0) (ft := 3) Try.underlying40 rfl ti3 rfl e13) rfl hJ) ?_
        refine all_cons (by
          refine ⟨?_, ?_⟩
          ·intro _nm ρ σm hJ hoff hdep
           have e14 := hdep 3 rfl rfl 14 rfl
           obtain ⟨H, m⟩ := id hJ
           replace hc11 := (Hs.ro 0 rfl).hmd hx7 hi8 (k := 0) (by decide) hc11 m
           exact dp_v (v := (I x6.1)) wn (rv_load1 Try.underlying3 rfl e14 hc11) rfl hJ
          trivial) ?_
        refine all_cons (by
          refine ⟨?_, ?_⟩
          ·intro _nm ρ σm hJ hoff hdep
           have e15 : look 63 ρ 15 = (I x6.1) := hdep 4 rfl rfl 15 rfl
           obtain ⟨H, m⟩ := id hJ
           refine dp_cx wn (cx_call hc14 (ent_f hc14.fn (by show [look 63 ρ 15, (I 1), (I 99)] = _; rw [e15])) hn0 (show Hp S0 σ0 _ ([] ++ [Ch.ro 0 (Sl alist_0 list_0 clist_0) list_0]) from (H.sel' [0] rfl rfl))) ?_
           rintro _ σq ⟨_, ⟨rfl, rfl⟩, H2, m2⟩
           exact ⟨_, (), rfl, rfl, ⟨H2.sel' [0] rfl rfl, m.comp0 m2⟩, stab [0, 1, 2, 3, 4] (by kernel_rfl) ⟨rfl, rfl, rfl, rfl, rfl, trivial⟩⟩
          trivial) ?_
        refine ac rfl (by
          intro k _nm ρ σm hJ hoff hdep
          have e16 := hdep 5 rfl rfl 16 rfl
          exact dp_v (v := (B (!r12))) wn (rv_not e16) rfl hJ) ?_
        refine ac rfl (by
          intro k _nm ρ σm hJ hoff hdep
          have e17 := hdep 6 rfl rfl 17 rfl
          exact dp_v (v := (B (!r12))) wn (rv_move e17) rfl hJ) ?_
        refine ac rfl (by
          intro k _nm ρ σm hJ hoff hdep
          have e0 := look_off (N := 63) (hoff 0 rfl) rfl
          have e18 := hdep 7 rfl rfl 18 rfl
          exact dp_v (v := (Sl alist_0 list_0 clist_0)) (wanted_yes rfl (yv_of rfl (e18.trans (congrArg B hb15)))) (rv_move e0) rfl hJ) ?_
        refine ac rfl (by
          intro k _nm ρ σm hJ hoff hdep
          have e3 := look_off (N := 63) (hoff 3 rfl) rfl
          have e18 := hdep 7 rfl rfl 18 rfl
          exact dp_v (v := (I s2)) (wanted_yes rfl (yv_of rfl (e18.trans (congrArg B hb15)))) (rv_move e3) rfl hJ) ?_
        refine ac rfl (by
          intro k _nm ρ σm hJ hoff hdep
          have e19 := hdep 8 rfl rfl 19 rfl
          have e20 := hdep 9 rfl rfl 20 rfl
          have e18 := hdep 7 rfl rfl 18 rfl
          exact dp_v (v := (pt b20 o21)) (wanted_yes rfl (yv_of rfl (e18.trans (congrArg B hb15)))) (rv_ix Try.underlying23 ti40 e19 e20 hi19) rfl hJ) ?_
        refine ac rfl (by
          intro k _nm ρ σm hJ hoff hdep
          have e21 := hdep 10 rfl rfl 21 rfl
          have e18 := hdep 7 rfl rfl 18 rfl
          exact dp_v (v := (pt b20 (o21 + 1))) (wanted_yes rfl (yv_of rfl (e18.trans (congrArg B hb15)))) (rv_fieldAddr (off := 1) (ft := 3) Try.underlying40 rfl ti3 rfl e21) rfl hJ) ?_
        refine all_cons (by
          refine ⟨?_, ?_⟩
          ·intro _nm ρ σm hJ hoff hdep
           have e22 := hdep 11 rfl rfl 22 rfl
           have e18 := hdep 7 rfl rfl 18 rfl
           obtain ⟨H, m⟩ := id hJ
           replace hc22 := (Hs.ro 0 rfl).hmd hx18 hi19 (k := 1) (by decide) hc22 m
           exact dp_v (v := (I x17.2)) (wanted_yes rfl (yv_of rfl (e18.trans (congrArg B hb15)))) (rv_load1 Try.underlying3 rfl e22 hc22) rfl hJ
          trivial) ?_
        refine all_cons (by
          refine ⟨?_, ?_⟩
          ·intro _nm ρ σm hJ hoff hdep
           have e23 : look 63 ρ 23 = (I x17.2) := hdep 12 rfl rfl 23 rfl
           have e18 := hdep 7 rfl rfl 18 rfl
           obtain ⟨H, m⟩ := id hJ
           refine dp_cx (wanted_yes rfl (yv_of rfl (e18.trans (congrArg B hb15)))) (cx_call hc25 (ent_f hc25.fn (by show [look 63 ρ 23, (I 0), (I 1000000)] = _; rw [e23])) hn0 (show Hp S0 σ0 _ ([] ++ [Ch.ro 0 (Sl alist_0 list_0 clist_0) list_0]) from (H.sel' [0] rfl rfl))) ?_
           rintro _ σq ⟨_, ⟨rfl, rfl⟩, H2, m2⟩
           exact ⟨_, (), rfl, rfl, ⟨H2.sel' [0] rfl rfl, m.comp0 m2⟩, stab [0, 1, 2, 3, 4, 5, 6, 7, 8, 9, 10, 11, 12] (by kernel_rfl) ⟨rfl, rfl, rfl, rfl, rfl, rfl, rfl, rfl, rfl, rfl, rfl, rfl, rfl, trivial⟩⟩
          trivial) ?_
        refine ac rfl (by
          intro k _nm ρ σm hJ hoff hdep
          have e24 := hdep 13 rfl rfl 24 rfl
          have e18 := hdep 7 rfl rfl 18 rfl
          exact dp_v (v := (B (!r23))) (wanted_yes rfl (yv_of rfl (e18.trans (congrArg B hb15)))) (rv_not e24) rfl hJ) ?_
        refine ac rfl (by
          intro k _nm ρ σm hJ hoff hdep
          have e18 := hdep 7 rfl rfl 18 rfl
          have e25 := hdep 14 rfl rfl 25 rfl
          exact dp_v (v := (B (!r23))) wn (rv_pick_f (e18.trans (congrArg B hb15)) e25) rfl hJ) ?_
        refine ac rfl (by
          intro k _nm ρ σm hJ hoff hdep
          have e26 := hdep 15 rfl rfl 26 rfl
          exact dp_v (v := (B (!r23))) wn (rv_move e26) rfl hJ) ?_
        refine ac rfl (by
          intro k _nm ρ σm hJ hoff hdep
          have e3 := look_off (N := 63) (hoff 3 rfl) rfl
          have e27 := hdep 16 rfl rfl 27 rfl
          exact dp_v (v := (I s2)) (wanted_yes rfl (yv_of rfl (e27.trans (congrArg B hb26)))) (rv_move e3) rfl hJ) ?_
        refine ac rfl (by
          intro k _nm ρ σm hJ hoff hdep
          have e28 := hdep 17 rfl rfl 28 rfl
          have e27 := hdep 16 rfl rfl 27 rfl
          exact dp_v (v := (B (decide (0 < s2)))) (wanted_yes rfl (yv_of rfl (e27.trans (congrArg B hb26)))) (rv_gtr (a := s2) (b := 0) e28 rfl) rfl hJ) ?_
        refine ac rfl (by
          intro k _nm ρ σm hJ hoff hdep
          have e29 := hdep 18 rfl rfl 29 rfl
          have e27 := hdep 16 rfl rfl 27 rfl
          exact dp_v (v := (B (decide (0 < s2)))) (wanted_yes rfl (yv_of rfl (e27.trans (congrArg B hb26)))) (rv_move e29) rfl hJ) ?_
        refine ac rfl (by
          intro k _nm ρ σm hJ hoff hdep
          have e30 := hdep 19 rfl rfl 30 rfl
          exact dp_skip (wanted_no rfl (yv_of rfl (e30.trans (congrArg B hb28)))) rfl hJ) ?_
        refine ac rfl (by
          intro k _nm ρ σm hJ hoff hdep
          have e30 := hdep 19 rfl rfl 30 rfl
          exact dp_skip (wanted_no rfl (yv_of rfl (e30.trans (congrArg B hb28)))) rfl hJ) ?_
        refine ac rfl (by
          intro k _nm ρ σm hJ hoff hdep
          have e30 := hdep 19 rfl rfl 30 rfl
          exact dp_skip (wanted_no rfl (yv_of rfl (e30.trans (congrArg B hb28)))) rfl hJ) ?_
        refine ac rfl (by
          intro k _nm ρ σm hJ hoff hdep
          have e30 := hdep 19 rfl rfl 30 rfl
          exact dp_skip (wanted_no rfl (yv_of rfl (e30.trans (congrArg B hb28)))) rfl hJ) ?_
        refine ac rfl (by
          intro k _nm ρ σm hJ hoff hdep
          have e30 := hdep 19 rfl rfl 30 rfl
          exact dp_skip (wanted_no rfl (yv_of rfl (e30.trans (congrArg B hb28)))) rfl hJ) ?_
        refine ac rfl (by
          intro k _nm ρ σm hJ hoff hdep
          have e30 := hdep 19 rfl rfl 30 rfl
          exact dp_skip (wanted_no rfl (yv_of rfl (e30.trans (congrArg B hb28)))) rfl hJ) ?_
        refine ac rfl (by
          intro k _nm ρ σm hJ hoff hdep
          have e30 := hdep 19 rfl rfl 30 rfl
          exact dp_skip (wanted_no rfl (yv_of rfl (e30.trans (congrArg B hb28)))) rfl hJ) ?_
        refine ac rfl (by
          intro k _nm ρ σm hJ hoff hdep
          have e30 := hdep 19 rfl rfl 30 rfl
          exact dp_skip (wanted_no rfl (yv_of rfl (e30.trans (congrArg B hb28)))) rfl hJ) ?_
        refine ac rfl (by
          intro k _nm ρ σm hJ hoff hdep
          have e30 := hdep 19 rfl rfl 30 rfl
          exact dp_skip (wanted_no rfl (yv_of rfl (e30.trans (congrArg B hb28)))) rfl hJ) ?_
        exact all_nil
       ·intro _nm ρ σ48 hJ hoff hrel
        have e0 := look_off (N := 63) (hoff 0 rfl) rfl
        have e3 := look_off (N := 63) (hoff 3 rfl) rfl
        have e27 := hrel 16 rfl 27 rfl
        have e30 := hrel 19 rfl 30 rfl
        have e35 := hrel 24 rfl 35 rfl
        have e39 := hrel 28 rfl 39 rfl
        obtain ⟨H, -⟩ := (show Hp S0 σ0 σ48 [Ch.ro 0 (Sl alist_0 list_0 clist_0) list_0] ∧ Md (cov []) σ3 σ48 from hJ)
        clear hJ Hs
        rw [fr_lookL (L := [(0, (Sl alist_0 list_0 clist_0)), (3, (I s2)), (27, (B (!r23))), (30, (B (decide (0 < s2)))), (35, undef), (39, undef)]) ⟨e0, e3, e27, e30, e35, e39, trivial⟩]
        clear hoff hrel e0 e3 e27 e30 e35 e39
        refine st_skip (congrArg some hb28) ?_
        refine st_skip (congrArg some hb28) ?_
        refine st_g (v := (B false)) (congrArg some hb26) (rv_pick_f (congrArg B hb28) rfl) ?_
        refine st (v := (B false)) (rv_pick_f (congrArg B hb26) rfl) ?_
        refine w_end ?_
        obtain rfl := Option.some.inj h
        exact ⟨rfl, _, σ48, fr_join ⟨rfl, rfl, rfl, trivial⟩, rfl, H.sel' [0] rfl rfl⟩
   ·clear hj
    have h := h'
    clear h' H
    rintro e a w ⟨rfl, ρ, σ49, rfl, rfl, H⟩
    refine q_then ?_
    refine cd_cond o5 rfl (fun hb50 => ?_) (fun hb50 => ?_)
    ·replace h := bif_t hb50 h
     refine c_seq ?_
     refine rg ?_
     refine st (v := (B false)) (rv_assign rfl) ?_
     refine w_end ?_
     refine q_then ?_
     refine c_ret ?_
     refine q_then_r ?_
     refine q_blk_r ?_
     refine q_then_r ?_
     refine q_then_r ?_
     refine q_blk_r ?_
     obtain rfl := Option.some.inj h
     obtain rfl := hres _ rfl
     exact .inr (⟨_, rfl, rfl, _, σ49, fr_join ⟨rfl, trivial⟩, rfl, H.sel' [] rfl rfl⟩)
    ·replace h := bif_f hb50 h
     refine c_skip ?_
     refine q_then ?_
     refine c_seq ?_
     refine rg ?_
     refine st (v := (I 0)) (rv_assign rfl) ?_
     refine w_end ?_
     refine q_then ?_
     obtain ⟨o51, hj, h'⟩ := bind_some h
     clear h
     refine c_cut (fun e a w => (∃ t, o51 = (.inl t) ∧ e = .normal ∧ ∃ (ρ : Nat → Value) (σ : St), a = fr 63 (updL ρ [(0, (Sl alist_0 list_0 clist_0)), (3, (I s2))]) ∧ w = σ.w ∧ Hp S0 σ0 σ [Ch.ro 0 (Sl alist_0 list_0 clist_0) list_0]) ∨ (∃ t, o51 = (.inr t) ∧ e = .ret ∧ ∃ (ρ : Nat → Value) (σ : St), a = fr 63 (updL ρ [(2, (B t))]) ∧ w = σ.w ∧ Hp S0 σ0 σ [])) ?_ ?_
     ·clear h'
      rename _ = some o51 => h
      refine c_blk ?_
      refine wp_loopM _ h (fun s52 a w => ∃ (ρ : Nat → Value) (σ : St), a = fr 63 (updL ρ [(0, (Sl alist_0 list_0 clist_0)), (3, (I s2)), (4, (I s52))]) ∧ w = σ.w ∧ Hp S0 σ0 σ [Ch.ro 0 (Sl alist_0 list_0 clist_0) list_0]) ⟨_, σ49, fr_join ⟨rfl, rfl, rfl, trivial⟩, rfl, H.sel' [0] rfl rfl⟩ ?_
      clear h H
      rintro s52 a w o ⟨ρ, σ53, rfl, rfl, H⟩ h hres
      refine c_seq ?_
      refine c_seq ?_
      refine rg ?_
      refine st (v := (I s52)) (rv_move rfl) ?_
      refine st (v := (I s2)) (rv_move rfl) ?_
      refine st (v := (B (decide (s52 < s2)))) (rv_lss (a := s52) (b := s2) rfl rfl) ?_
      refine w_end ?_
      refine q_then ?_
      refine cd_cond (decide (s52 < s2)) rfl (fun hb54 => ?_) (fun hb54 => ?_)
      ·replace h := bif_t hb54 h
       refine c_skip ?_
       refine q_then ?_
       refine c_seq ?_
       refine c_blk ?_
       refine c_seq ?_
       refine rgP (σ := σ53) 10 (by kernel_rfl) (by kernel_rfl) (by kernel_rfl) ?_
       refine sq (v := (Sl alist_0 list_0 clist_0)) (rv_move rfl) ?_
       refine sq (v := (I s52)) (rv_move rfl) ?_
       obtain ⟨x55, hx56, h'⟩ := bind_some h
       clear h
       have h := h'; clear h'
       obtain ⟨b58, o59, hi57, -⟩ := (H.ro 0 rfl).ix hx56
       refine sq (v := (pt b58 o59)) (rv_ix Try.underlying23 ti40 rfl rfl hi57) ?_
       refine sq (v := (pt b58 (o59 + 0))) (rv_fieldAddr (off := 0) (ft := 3) Try.underlying40 rfl ti3 rfl rfl) ?_
       have hc60 := ((H.ro 0 rfl).at hx56 hi57).fst.int
       refine sq (v := (I x55.1)) (rv_load1 Try.underlying3 rfl rfl hc60) ?_
       refine sq (v := (Sl alist_0 list_0 clist_0)) (rv_move rfl) ?_
       refine sq (v := (I s2)) (rv_move rfl) ?_
       obtain ⟨x61, hx62, h'⟩ := bind_some h
       clear h
       have h := h'; clear h'
       obtain ⟨b64, o65, hi63, -⟩ := (H.ro 0 rfl).ix hx62
       refine sq (v := (pt b64 o65)) (rv_ix Try.underlying23 ti40 rfl rfl hi63) ?_
       refine sq (v := (pt b64 (o65 + 0))) (rv_fieldAddr (off := 0) (ft := 3) Try.underlying40 rfl ti3 rfl rfl) ?_
       have hc66 := ((H.ro 0 rfl).at hx62 hi63).fst.int
       refine sq (v := (I x61.1)) (rv_load1 Try.underlying3 rfl rfl hc66) ?_
       refine sq_end ?_
       intro σ67 hm68
       replace H := H.grow (hm68.mono fun _ h => h); clear hm68
       refine st (v := (B (x55.1 == x61.1))) (rv_eql (a := x55.1) (b := x61.1) rfl rfl) ?_
       refine w_end ?_
       refine q_then ?_
       refine cd_cond (x55.1 == x61.1) rfl (fun hb69 => ?_) (fun hb69 => ?_)
       ·replace h := bif_t hb69 h
        refine c_seq ?_
        refine rg ?_
        refine st (v := (B false)) (rv_assign rfl) ?_
        refine w_end ?_
        refine q_then ?_
        refine c_ret ?_
        refine q_blk_r ?_
        refine q_then_r ?_
        refine q_then_r ?_
        refine q_blk_r ?_
        obtain rfl := Option.some.inj h
        obtain rfl := hres _ rfl
        exact .inr (⟨_, rfl, rfl, _, σ67, fr_join ⟨rfl, trivial⟩, rfl, H.sel' [] rfl rfl⟩)
       ·replace h := bif_f hb69 h
        refine c_skip ?_
        refine q_blk ?_
        refine q_then ?_
        refine rg ?_
        refine st (v := (I s52)) (rv_move rfl) ?_
        refine st (v := (I (w64 (s52 + 1)))) (rv_add (a := s52) (b := 1) rfl rfl) ?_
        refine st (v := (I (w64 (s52 + 1)))) (rv_assign rfl) ?_
        refine w_end ?_
        refine q_then ?_
        obtain rfl := Option.some.inj h
        exact ⟨_, rfl, _, σ67, fr_join ⟨rfl, rfl, rfl, trivial⟩, rfl, H.sel' [0] rfl rfl⟩
      ·replace h := bif_f hb54 h
       refine c_exit ?_
       refine q_then_x ?_
       refine q_then_x ?_
       refine q_blk_hit ?_
       obtain rfl := Option.some.inj h
       obtain rfl := hres _ rfl
       exact .inl ⟨_, rfl, rfl, _, σ53, fr_join ⟨rfl, rfl, trivial⟩, rfl, H.sel' [0] rfl rfl⟩
     ·clear hj
      have h := h'
      clear h' H
      rintro e a w (⟨t70, rfl, rfl, ρ, σ71, rfl, rfl, H⟩ | ⟨t72, rfl, rfl, ρ, σ73, rfl, rfl, H⟩)
      ·replace h := selim_l h
       refine q_blk ?_
       refine q_then ?_
       refine rg ?_
       refine st (v := (I s2)) (rv_move rfl) ?_
       refine st (v := (I (w64 (s2 + 1)))) (rv_add (a := s2) (b := 1) rfl rfl) ?_
       refine st (v := (I (w64 (s2 + 1)))) (rv_assign rfl) ?_
       refine w_end ?_
       refine q_then ?_
       obtain rfl := Option.some.inj h
       exact ⟨_, rfl, _, σ71, fr_join ⟨rfl, rfl, trivial⟩, rfl, H.sel' [0] rfl rfl⟩
      ·replace h := selim_r h
       refine q_blk_r ?_
       refine q_then_r ?_
       refine q_then_r ?_
       refine q_blk_r ?_
       obtain rfl := Option.some.inj h
       obtain rfl := hres _ rfl
       exact .inr (⟨_, rfl, rfl, _, σ73, fr_join ⟨rfl, trivial⟩, rfl, H.sel' [] rfl rfl⟩)
  ·replace h := bif_f hb4 h
   refine c_exit ?_
   refine q_then_x ?_
   refine q_then_x ?_
   refine q_blk_hit ?_
   obtain rfl := Option.some.inj h
   obtain rfl := hres _ rfl
   exact .inl ⟨_, rfl, rfl, _, σ3, fr_join ⟨rfl, trivial⟩, rfl, H.sel' [0] rfl rfl⟩
 ·clear hj
  have h := h'
  clear h' H
  rintro e a w (⟨t74, rfl, rfl, ρ, σ75, rfl, rfl, H⟩ | ⟨t76, rfl, rfl, ρ, σ77, rfl, rfl, H⟩)
  ·replace h := selim_l h
   refine q_then ?_
   refine c_seq ?_
   refine rg ?_
   refine st (v := (Sl alist_0 list_0 clist_0)) (rv_move rfl) ?_
   refine st (v := (I (list_0.length : Int))) (rv_len Try.underlying23 rfl) ?_
   refine st (v := (B (decide ((list_0.length : Int) ≤ 16)))) (rv_leq (a := (list_0.length : Int)) (b := 16) rfl rfl) ?_
   refine st (v := (B (decide ((list_0.length : Int) ≤ 16)))) (rv_assign rfl) ?_
   refine w_end ?_
   refine q_then ?_
   refine c_ret ?_
   obtain rfl := Option.some.inj h
   exact fin_ret (v := (B (decide ((list_0.length : Int) ≤ 16)))) (results_ok Try.results41 (res_tmp (v := (B (decide ((list_0.length : Int) ≤ 16)))) rfl res_nil) rfl) ⟨rfl, rfl⟩ (H.sel' [] rfl rfl)
  ·replace h := selim_r h
   refine q_then_r ?_
   obtain rfl := Option.some.inj h
   exact fin_ret (v := (B t76)) (results_ok Try.results41 (res_tmp (v := (B t76)) rfl res_nil) rfl) ⟨rfl, rfl⟩ (H.sel' [] rfl rfl)

theorem c_spec_hitAt {list_0 : List (Int × Int)} {key_1 : Int} {alist_0 : Option Addr} {clist_0 : Nat} {r : Int} (h : M.spec_hitAt list_0 key_1 = some r) :
    Cal2 Try.prog 42 [(Sl alist_0 list_0 clist_0), (I key_1)] [Ch.ro 0 (Sl alist_0 list_0 clist_0) list_0] (fun n0 v L => v = (I r) ∧ L = []) := by
 refine cal2 (n := 20) Try.func42 rfl rfl rfl rfl ?_
 intro S0 σ0 n0 hn0 H
 unfold M.spec_hitAt at h
 refine c_seq ?_
 refine rg ?_
 refine st (v := (I 0)) (rv_assign rfl) ?_
 refine w_end ?_
 refine q_then ?_
 refine c_seq ?_
 refine c_seq ?_
 refine rg ?_
 refine st (v := (I 0)) (rv_assign rfl) ?_
 refine w_end ?_
 refine q_then ?_
 obtain ⟨o1, hj, h'⟩ := bind_some h
 clear h
 refine c_cut (fun e a w => (∃ t, o1 = (.inl t) ∧ e = .normal ∧ ∃ (ρ : Nat → Value) (σ : St), a = fr 20 (updL ρ []) ∧ w = σ.w ∧ Hp S0 σ0 σ []) ∨ (∃ t, o1 = (.inr t) ∧ e = .ret ∧ ∃ (ρ : Nat → Value) (σ : St), a = fr 20 (updL ρ [(4, (I t))]) ∧ w = σ.w ∧ Hp S0 σ0 σ [])) ?_ ?_
 ·clear h'
  rename _ = some o1 => h
  refine c_blk ?_
  refine wp_loopM _ h (fun s2 a w => ∃ (ρ : Nat → Value) (σ : St), a = fr 20 (updL ρ [(0, (Sl alist_0 list_0 clist_0)), (1, (I key_1)), (5, (I s2))]) ∧ w = σ.w ∧ Hp S0 σ0 σ [Ch.ro 0 (Sl alist_0 list_0 clist_0) list_0]) ⟨_, σ0, fr_join ⟨rfl, rfl, rfl, trivial⟩, rfl, H.sel' [0] rfl rfl⟩ ?_
  clear h H
  rintro s2 a w o ⟨ρ, σ3, rfl, rfl, H⟩ h hres
  refine c_seq ?_
  refine c_seq ?_
  refine rg ?_
  refine st (v := (I s2)) (rv_move rfl) ?_
  refine st (v := (Sl alist_0 list_0 clist_0)) (rv_move rfl) ?_
  refine st (v := (I (list_0.length : Int))) (rv_len Try.underlying23 rfl) ?_
  refine st (v := (B (decide (s2 < (list_0.length : Int))))) (rv_lss (a := s2) (b := (list_0.length : Int)) rfl rfl) ?_
  refine w_end ?_
  refine q_then ?_
  refine cd_cond (decide (s2 < (list_0.length : Int))) rfl (fun hb4 => ?_) (fun hb4 => ?_)
  ·replace h := bif_t hb4 h
   refine c_skip ?_
   refine q_then ?_
   refine c_seq ?_
   refine c_blk ?_
   refine c_seq ?_
   refine rg ?_
   refine st (v := (Sl alist_0 list_0 clist_0)) (rv_move rfl) ?_
   refine st (v := (I s2)) (rv_move rfl) ?_
   obtain ⟨x5, hx6, h'⟩ := bind_some h
   clear h
   have h := h'; clear h'
   obtain ⟨b8, o9, hi7, -⟩ := (H.ro 0 rfl).ix hx6
   refine st (v := (pt b8 o9)) (rv_ix Try.underlying23 ti40 rfl rfl hi7) ?_
   refine st (v := (pt b8 (o9 + 0))) (rv_fieldAddr (off := 0) (ft := 3) Try.underlying40 rfl ti3 rfl rfl) ?_
   have hc10 := ((H.ro 0 rfl).at hx6 hi7).fst.int
   refine st (v := (I x5.1)) (rv_load1 Try.underlying3 rfl rfl hc10) ?_
   refine st (v := (I key_1)) (rv_move rfl) ?_
   refine st (v := (B (x5.1 == key_1))) (rv_eql (a := x5.1) (b := key_1) rfl rfl) ?_
   refine w_end ?_
   refine q_then ?_
   refine cd_cond (x5.1 == key_1) rfl (fun hb11 => ?_) (fun hb11 => ?_)
   ·replace h := bif_t hb11 h
    refine c_seq ?_
    refine rg ?_
    refine st (v := (I s2)) (rv_move rfl) ?_
    refine st (v := (I s2)) (rv_assign rfl) ?_
    refine w_end ?_
    refine q_then ?_
    refine c_ret ?_
    refine q_blk_r ?_
    refine q_then_r ?_
    refine q_then_r ?_
    refine q_blk_r ?_
    obtain rfl := Option.some.inj h
    obtain rfl := hres _ rfl
    exact .inr (⟨_, rfl, rfl, _, σ3, fr_join ⟨rfl, trivial⟩, rfl, H.sel' [] rfl rfl⟩)
   ·replace h := bif_f hb11 h
    refine c_skip ?_
    refine q_blk ?_
    refine q_then ?_
    refine rg ?_
    refine st (v := (I s2)) (rv_move rfl) ?_
    refine st (v := (I (w64 (s2 + 1)))) (rv_add (a := s2) (b := 1) rfl rfl) ?_
    refine st (v := (I (w64 (s2 + 1)))) (rv_assign rfl) ?_
    refine w_end ?_
    refine q_then ?_
    obtain rfl := Option.some.inj h
    exact ⟨_, rfl, _, σ3, fr_join ⟨rfl, rfl, rfl, trivial⟩, rfl, H.sel' [0] rfl rfl⟩
  ·replace h := bif_f hb4 h
   refine c_exit ?_
   refine q_then_x ?_
   refine q_then_x ?_
   refine q_blk_hit ?_
   obtain rfl := Option.some.inj h
   obtain rfl := hres _ rfl
   exact .inl ⟨_, rfl, rfl, _, σ3, fr_join trivial, rfl, H.sel' [] rfl rfl⟩
 ·clear hj
  have h := h'
  clear h' H
  rintro e a w (⟨t12, rfl, rfl, ρ, σ13, rfl, rfl, H⟩ | ⟨t14, rfl, rfl, ρ, σ15, rfl, rfl, H⟩)
  ·replace h := selim_l h
   refine q_then ?_
   refine c_seq ?_
   refine rg ?_
   refine st (v := (I (-1))) (rv_assign rfl) ?_
   refine w_end ?_
   refine q_then ?_
   refine c_ret ?_
   obtain rfl := Option.some.inj h
   exact fin_ret (v := (I (-1))) (results_ok Try.results42 (res_tmp (v := (I (-1))) rfl res_nil) rfl) ⟨rfl, rfl⟩ (H.sel' [] rfl rfl)
  ·replace h := selim_r h
   refine q_then_r ?_
   obtain rfl := Option.some.inj h
   exact fin_ret (v := (I t14)) (results_ok Try.results42 (res_tmp (v := (I t14)) rfl res_nil) rfl) ⟨rfl, rfl⟩ (H.sel' [] rfl rfl)

theorem c_spec_MergeHits {a_0 : List (Int × Int)} {b_1 : List (Int × Int)} {k_2 : Int} {aa_0 : Option Addr} {ca_0 : Nat} {ab_1 : Option Addr} {cb_1 : Nat} {r : (List (Int × Int))} (h : M.spec_MergeHits a_0 b_1 k_2 = some r) :
    Cal2 Try.prog 26 [(Sl aa_0 a_0 ca_0), (Sl ab_1 b_1 cb_1), (I k_2)] [Ch.ro 0 (Sl aa_0 a_0 ca_0) a_0, Ch.ro 0 (Sl ab_1 b_1 cb_1) b_1] (fun n0 v L => ∃ (az1 : Option Addr), ∃ (cz2 : Nat), v = (Sl az1 r cz2) ∧ L = [Ch.own n0 n0 (Sl az1 r cz2) r]) := by
 refine cal2 (n := 97) Try.func26 rfl rfl rfl rfl ?_
 intro S0 σ0 n0 hn0 H
 unfold M.spec_MergeHits at h
 refine c_seq ?_
 refine rg ?_
 refine st (v := (.slice none 0 0)) (rv_assign rfl) ?_
 refine w_end ?_
 refine q_then ?_
 refine c_seq ?_
 refine rg ?_
 refine st_ex (ex_buildSlice (el := n0) (xs := ([] : List (Int × Int))) (ps := []) (cs := []) H hn0 Try.underlying23 ti40 rfl rfl (by kernel_rfl) (.nil) rfl) wn ?_
 rintro _ σ2 ⟨b1, rfl, H, -⟩
 refine st (v := (Sl (some ⟨b1, 0, none⟩) ([] : List (Int × Int)) 0)) (rv_assign rfl) ?_
 refine w_end ?_
 refine q_then ?_
 refine c_seq ?_
 refine c_seq ?_
 obtain ⟨o3, hj, h'⟩ := bind_some h
 clear h
 refine c_cut (fun e a w => e = .normal ∧ ∃ (ρ : Nat → Value) (σ : St), a = fr 97 (updL ρ [(0, (Sl aa_0 a_0 ca_0)), (1, (Sl ab_1 b_1 cb_1)), (2, (I k_2)), (7, (Sl (some ⟨b1, 0, none⟩) ([] : List (Int × Int)) 0)), (25, (B o3))]) ∧ w = σ.w ∧ Hp S0 σ0 σ [Ch.ro 0 (Sl aa_0 a_0 ca_0) a_0, Ch.ro 0 (Sl ab_1 b_1 cb_1) b_1, Ch.own n0 n0 (Sl (some ⟨b1, 0, none⟩) ([] : List (Int × Int)) 0) ([] : List (Int × Int))]) ?_ ?_
 ·clear h'
  rename _ = some o3 => h
  refine rg ?_
  refine st (v := (Sl aa_0 a_0 ca_0)) (rv_move rfl) ?_
  obtain ⟨r4, hx5, h'⟩ := bind_some h
  clear h
  have h := h'; clear h'
  have hc6 := c_spec_validHits (alist_0 := aa_0) (clist_0 := ca_0) hx5
  refine st_call (cx_call hc6 (ent_f hc6.fn rfl) hn0 (show Hp S0 σ0 _ ([Ch.ro 0 (Sl aa_0 a_0 ca_0) a_0] ++ [Ch.own n0 n0 (Sl (some ⟨b1, 0, none⟩) ([] : List (Int × Int)) 0) ([] : List (Int × Int)), Ch.ro 0 (Sl aa_0 a_0 ca_0) a_0, Ch.ro 0 (Sl ab_1 b_1 cb_1) b_1]) from (H.sel' [1, 0, 1, 2] rfl rfl))) wn ?_
  rintro _ σ7 ⟨_, ⟨rfl, rfl⟩, H, -⟩
  replace H : Hp S0 σ0 σ7 [Ch.own n0 n0 (Sl (some ⟨b1, 0, none⟩) ([] : List (Int × Int)) 0) ([] : List (Int × Int)), Ch.ro 0 (Sl aa_0 a_0 ca_0) a_0, Ch.ro 0 (Sl ab_1 b_1 cb_1) b_1] := H
  refine st (v := (B (!r4))) (rv_not rfl) ?_
  refine st (v := (B (!r4))) (rv_move rfl) ?_
  rcases Bool.eq_false_or_eq_true (!r4) with hb8 | hb8
  ·replace h := bif_t hb8 h
   refine st_skip (congrArg some hb8) ?_
   refine st_skip (congrArg some hb8) ?_
   refine st_skip (congrArg some hb8) ?_
   refine st (v := (B true)) (rv_pick_t (congrArg B hb8) rfl) ?_
   refine st (v := (B true)) (rv_move rfl) ?_
   refine st_skip rfl ?_
   refine st_skip rfl ?_
   refine st_skip rfl ?_
   refine st (v := (B true)) (rv_pick_t rfl rfl) ?_
   refine w_end ?_
   obtain rfl := Option.some.inj h
   exact ⟨rfl, _, σ7, fr_join ⟨rfl, rfl, rfl, rfl, rfl, trivial⟩, rfl, H.sel' [1, 2, 0] rfl rfl⟩
  ·replace h := bif_f hb8 h
   refine st_g (v := (Sl ab_1 b_1 cb_1)) (congrArg some hb8) (rv_move rfl) ?_
   obtain ⟨r9, hx10, h'⟩ := bind_some h
   clear h
   have h := h'; clear h'
   have hc11 := c_spec_validHits (alist_0 := ab_1) (clist_0 := cb_1) hx10
   refine st_call (cx_call hc11 (ent_f hc11.fn rfl) hn0 (show Hp S0 σ0 _ ([Ch.ro 0 (Sl ab_1 b_1 cb_1) b_1] ++ [Ch.own n0 n0 (Sl (some ⟨b1, 0, none⟩) ([] : List (Int × Int)) 0) ([] : List (Int × Int)), Ch.ro 0 (Sl aa_0 a_0 ca_0) a_0, Ch.ro 0 (Sl ab_1 b_1 cb_1) b_1]) from (H.sel' [2, 0, 1, 2] rfl rfl))) (wanted_yes rfl (by exact (congrArg some hb8))) ?_
   rintro _ σ12 ⟨_, ⟨rfl, rfl⟩, H, -⟩
   replace H : Hp S0 σ0 σ12 [Ch.own n0 n0 (Sl (some ⟨b1, 0, none⟩) ([] : List (Int × Int)) 0) ([] : List (Int × Int)), Ch.ro 0 (Sl aa_0 a_0 ca_0) a_0, Ch.ro 0 (Sl ab_1 b_1 cb_1) b_1] := H
   refine st_g (v := (B (!r9))) (congrArg some hb8) (rv_not rfl) ?_
   refine st (v := (B (!r9))) (rv_pick_f (congrArg B hb8) rfl) ?_
   refine st (v := (B (!r9))) (rv_move rfl) ?_
   rcases Bool.eq_false_or_eq_true (!r9) with hb13 | hb13
   ·replace h := bif_t hb13 h
    refine st_skip (congrArg some hb13) ?_
    refine st_skip (congrArg some hb13) ?_
    refine st_skip (congrArg some hb13) ?_
    refine st (v := (B true)) (rv_pick_t (congrArg B hb13) rfl) ?_
    refine w_end ?_
    obtain rfl := Option.some.inj h
    exact ⟨rfl, _, σ12, fr_join ⟨rfl, rfl, rfl, rfl, rfl, trivial⟩, rfl, H.sel' [1, 2, 0] rfl rfl⟩
   ·replace h := bif_f hb13 h
    refine st_g (v := (I k_2)) (congrArg some hb13) (rv_move rfl) ?_
    obtain ⟨r14, hx15, h'⟩ := bind_some h
    clear h
    have h := h'; clear h'
    have hc16 := c_spec_inRange hx15
    refine st_call (cx_call hc16 (ent_f hc16.fn rfl) hn0 (show Hp S0 σ0 _ ([] ++ [Ch.own n0 n0 (Sl (some ⟨b1, 0, none⟩) ([] : List (Int × Int)) 0) ([] : List (Int × Int)), Ch.ro 0 (Sl aa_0 a_0 ca_0) a_0, Ch.ro 0 (Sl ab_1 b_1 cb_1) b_1]) from (H.sel' [0, 1, 2] rfl rfl))) (wanted_yes rfl (by exact (congrArg some hb13))) ?_
    rintro _ σ17 ⟨_, ⟨rfl, rfl⟩, H, -⟩
    replace H : Hp S0 σ0 σ17 [Ch.own n0 n0 (Sl (some ⟨b1, 0, none⟩) ([] : List (Int × Int)) 0) ([] : List (Int × Int)), Ch.ro 0 (Sl aa_0 a_0 ca_0) a_0, Ch.ro 0 (Sl ab_1 b_1 cb_1) b_1] := H
    refine st_g (v := (B (!r14))) (congrArg some hb13) (rv_not rfl) ?_
    refine st (v := (B (!r14))) (rv_pick_f (congrArg B hb13) rfl) ?_
    refine w_end ?_
    obtain rfl := Option.some.inj h
    exact ⟨rfl, _, σ17, fr_join ⟨rfl, rfl, rfl, rfl, rfl, trivial⟩, rfl, H.sel' [1, 2, 0] rfl rfl⟩
 ·clear hj
  have h := h'
  clear h' H
  rintro e a w ⟨rfl, ρ, σ18, rfl, rfl, H⟩
  refine q_then ?_
  refine cd_cond o3 rfl (fun hb19 => ?_) (fun hb19 => ?_)
  ·replace h := bif_t hb19 h
   refine c_seq ?_
   refine rg ?_
   refine st (v := (.slice none 0 0)) (rv_assign rfl) ?_
   refine w_end ?_
   refine q_then ?_
   refine c_ret ?_
   refine q_then_r ?_
   replace H := H.nilOwn (Int × Int) n0 n0
   obtain rfl := Option.some.inj h
   exact fin_ret (v := (.slice none 0 0)) (results_ok Try.results26 (res_tmp (v := (.slice none 0 0)) rfl res_nil) rfl) ⟨none, 0, rfl, rfl⟩ (H.sel' [0] rfl rfl)
  ·replace h := bif_f hb19 h
   refine c_skip ?_
   refine q_then ?_
   refine c_seq ?_
   refine c_seq ?_
   refine rg ?_
   refine st (v := (I 0)) (rv_assign rfl) ?_
   refine w_end ?_
   refine q_then ?_
   obtain ⟨o20, hj, h'⟩ := bind_some h
   clear h
   refine c_cut (fun e a w => e = .normal ∧ ∃ (ρ : Nat → Value) (σ : St) (aj1 : Option Addr) (cj2 : Nat), a = fr 97 (updL ρ [(0, (Sl aa_0 a_0 ca_0)), (1, (Sl ab_1 b_1 cb_1)), (2, (I k_2)), (7, (Sl aj1 o20 cj2))]) ∧ w = σ.w ∧ Hp S0 σ0 σ [Ch.ro 0 (Sl aa_0 a_0 ca_0) a_0, Ch.ro 0 (Sl ab_1 b_1 cb_1) b_1, Ch.own n0 n0 (Sl aj1 o20 cj2) o20]) ?_ ?_
   ·clear h'
    rename _ = some o20 => h
    refine c_blk ?_
    refine wp_loopM _ h (fun s21 a w => ∃ (ρ : Nat → Value) (σ : St) (aj1 : Option Addr) (cj2 : Nat), a = fr 97 (updL ρ [(0, (Sl aa_0 a_0 ca_0)), (1, (Sl ab_1 b_1 cb_1)), (2, (I k_2)), (7, (Sl aj1 s21.1 cj2)), (8, (I s21.2))]) ∧ w = σ.w ∧ Hp S0 σ0 σ [Ch.ro 0 (Sl aa_0 a_0 ca_0) a_0, Ch.ro 0 (Sl ab_1 b_1 cb_1) b_1, Ch.own n0 n0 (Sl aj1 s21.1 cj2) s21.1]) ⟨_, σ18, (some ⟨b1, 0, none⟩), 0, fr_join ⟨rfl, rfl, rfl, rfl, rfl, trivial⟩, rfl, H.sel' [0, 1, 2] rfl rfl⟩ ?_
    clear h H
    rintro s21 a w o ⟨ρ, σ22, a23, c24, rfl, rfl, H⟩ h hres
    refine c_seq ?_
    refine c_seq ?_
    refine rg ?_
    refine st (v := (I s21.2)) (rv_move rfl) ?_
    refine st (v := (Sl aa_0 a_0 ca_0)) (rv_move rfl) ?_
    refine st (v := (I (a_0.length : Int))) (rv_len Try.underlying23 rfl) ?_
    refine st (v := (B (decide (s21.2 < (a_0.length : Int))))) (rv_lss (a := s21.2) (b := (a_0.length : Int)) rfl rfl) ?_
    refine w_end ?_
    refine q_then ?_
    refine cd_cond (decide (s21.2 < (a_0.length : Int))) rfl (fun hb25 => ?_) (fun hb25 => ?_)
    ·replace h := bif_t hb25 h
     refine c_skip ?_
     refine q_then ?_
     refine c_seq ?_
     obtain ⟨o26, hj, h'⟩ := bind_some h
     clear h
     refine c_cut (fun e a w => e = .normal ∧ ∃ (ρ : Nat → Value) (σ : St) (aj1 : Option Addr) (cj2 : Nat), a = fr 97 (updL ρ [(0, (Sl aa_0 a_0 ca_0)), (1, (Sl ab_1 b_1 cb_1)), (2, (I k_2)), (7, (Sl aj1 o26 cj2)), (8, (I s21.2))]) ∧ w = σ.w ∧ Hp S0 σ0 σ [Ch.ro 0 (Sl aa_0 a_0 ca_0) a_0, Ch.ro 0 (Sl ab_1 b_1 cb_1) b_1, Ch.own n0 n0 (Sl aj1 o26 cj2) o26]) ?_ ?_
     ·clear h'
      rename _ = some o26 => h
      refine c_blk ?_
      refine c_seq ?_
      refine rg ?_
      refine st (v := (Sl ab_1 b_1 cb_1)) (rv_move rfl) ?_
      refine st (v := (Sl aa_0 a_0 ca_0)) (rv_move rfl) ?_
      refine st (v := (I s21.2)) (rv_move rfl) ?_
      obtain ⟨x27, hx28, h'⟩ := bind_some h
      clear h
      have h := h'; clear h'
      obtain ⟨b30, o31, hi29, -⟩ := (H.ro 0 rfl).ix hx28
      refine st (v := (pt b30 o31)) (rv_ix Try.underlying23 ti40 rfl rfl hi29) ?_
      refine st (v := (pt b30 (o31 + 0))) (rv_fieldAddr (off := 0) (ft := 3) Try.underlying40 rfl ti3 rfl rfl) ?_
      have hc32 := ((H.ro 0 rfl).at hx28 hi29).fst.int
      refine st (v := (I x27.1)) (rv_load1 Try.underlying3 rfl rfl hc32) ?_
      obtain ⟨r33, hx34, h'⟩ := bind_some h
      clear h
      have h := h'; clear h'
      have hc35 := c_spec_hitAt (alist_0 := ab_1) (clist_0 := cb_1) hx34
      refine st_call (cx_call hc35 (ent_f hc35.fn rfl) hn0 (show Hp S0 σ0 _ ([Ch.ro 0 (Sl ab_1 b_1 cb_1) b_1] ++ [Ch.ro 0 (Sl aa_0 a_0 ca_0) a_0, Ch.ro 0 (Sl ab_1 b_1 cb_1) b_1, Ch.own n0 n0 (Sl a23 s21.1 c24) s21.1]) from (H.sel' [1, 0, 1, 2] rfl rfl))) wn ?_
      rintro _ σ36 ⟨_, ⟨rfl, rfl⟩, H, -⟩
      replace H : Hp S0 σ0 σ36 [Ch.ro 0 (Sl aa_0 a_0 ca_0) a_0, Ch.ro 0 (Sl ab_1 b_1 cb_1) b_1, Ch.own n0 n0 (Sl a23 s21.1 c24) s21.1] := H
      refine st (v := (I r33)) (rv_assign rfl) ?_
      refine w_end ?_
      refine q_then ?_
      refine c_seq ?_
      obtain ⟨o37, hj, h'⟩ := bind_some h
      clear h
      refine c_cut (fun e a w => e = .normal ∧ ∃ (ρ : Nat → Value) (σ : St), a = fr 97 (updL ρ [(0, (Sl aa_0 a_0 ca_0)), (1, (Sl ab_1 b_1 cb_1)), (2, (I k_2)), (7, (Sl a23 s21.1 c24)), (8, (I s21.2)), (53, (B o37))]) ∧ w = σ.w ∧ Hp S0 σ0 σ [Ch.ro 0 (Sl aa_0 a_0 ca_0) a_0, Ch.ro 0 (Sl ab_1 b_1 cb_1) b_1, Ch.own n0 n0 (Sl a23 s21.1 c24) s21.1]) ?_ ?_
      ·clear h'
       rename _ = some o37 => h
       refine rgP (σ := σ36) 13 (by kernel_rfl) (by kernel_rfl) (by kernel_rfl) ?_
       refine sq (v := (I r33)) (rv_move rfl) ?_
       refine sq (v := (B (decide (r33 < 0)))) (rv_lss (a := r33) (b := 0) rfl rfl) ?_
       refine sq (v := (B (decide (r33 < 0)))) (rv_move rfl) ?_
       rcases Bool.eq_false_or_eq_true (decide (r33 < 0)) with hb38 | hb38
       ·replace h := bif_t hb38 h
        refine sq_skip (congrArg some hb38) ?_
        refine sq_skip (congrArg some hb38) ?_
        refine sq_skip (congrArg some hb38) ?_
        refine sq_skip (congrArg some hb38) ?_
        refine sq_skip (congrArg some hb38) ?_
        refine sq_skip (congrArg some hb38) ?_
        refine sq_skip (congrArg some hb38) ?_
        refine sq_skip (congrArg some hb38) ?_
        refine sq_skip (congrArg some hb38) ?_
        refine sq_skip (congrArg some hb38) ?_
        refine sq_end ?_
        intro σ39 hm40
        replace H := H.grow (hm40.mono fun _ h => h); clear hm40
        refine st_skip (congrArg some hb38) ?_
        refine st (v := (B true)) (rv_pick_t (congrArg B hb38) rfl) ?_
        refine w_end ?_
        obtain rfl := Option.some.inj h
        exact ⟨rfl, _, σ39, fr_join ⟨rfl, rfl, rfl, rfl, rfl, rfl, trivial⟩, rfl, H.sel' [0, 1, 2] rfl rfl⟩
       ·replace h := bif_f hb38 h
        refine sq_g (v := (Sl aa_0 a_0 ca_0)) (congrArg some hb38) (rv_move rfl) ?_
        refine sq_g (v := (I s21.2)) (congrArg some hb38) (rv_move rfl) ?_
        obtain ⟨x41, hx42, h'⟩ := bind_some h
        clear h
        have h := h'; clear h'
        obtain ⟨b44, o45, hi43, -⟩ := (H.ro 0 rfl).ix hx42
        refine sq_g (v := (pt b44 o45)) (congrArg some hb38) (rv_ix Try.underlying23 ti40 rfl rfl hi43) ?_
        refine sq_g (v := (pt b44 (o45 + 1))) (congrArg some hb38) (rv_fieldAddr (off := 1) (ft := 3) Try.underlying40 rfl ti3 rfl rfl) ?_
        have hc46 := ((H.ro 0 rfl).at hx42 hi43).snd.int
        refine sq_g (v := (I x41.2)) (congrArg some hb38) (rv_load1 Try.underlying3 rfl rfl hc46) ?_
        refine sq_g (v := (Sl ab_1 b_1 cb_1)) (congrArg some hb38) (rv_move rfl) ?_
        refine sq_g (v := (I r33)) (congrArg some hb38) (rv_move rfl) ?_
        obtain ⟨x47, hx48, h'⟩ := bind_some h
        clear h
        have h := h'; clear h'
        obtain ⟨b50, o51, hi49, -⟩ := (H.ro 1 rfl).ix hx48
        refine sq_g (v := (pt b50 o51)) (congrArg some hb38) (rv_ix Try.underlying23 ti40 rfl rfl hi49) ?_
        refine sq_g (v := (pt b50 (o51 + 1))) (congrArg some hb38) (rv_fieldAddr (off := 1) (ft := 3) Try.underlying40 rfl ti3 rfl rfl) ?_
        have hc52 := ((H.ro 1 rfl).at hx48 hi49).snd.int
        refine sq_g (v := (I x47.2)) (congrArg some hb38) (rv_load1 Try.underlying3 rfl rfl hc52) ?_
        refine sq_end ?_
        intro σ53 hm54
        replace H := H.grow (hm54.mono fun _ h => h); clear hm54
        refine st_g (v := (B (decide (x41.2 ≤ x47.2)))) (congrArg some hb38) (rv_leq (a := x41.2) (b := x47.2) rfl rfl) ?_
        refine st (v := (B (decide (x41.2 ≤ x47.2)))) (rv_pick_f (congrArg B hb38) rfl) ?_
        refine w_end ?_
        obtain rfl := Option.some.inj h
        exact ⟨rfl, _, σ53, fr_join ⟨rfl, rfl, rfl, rfl, rfl, rfl, trivial⟩, rfl, H.sel' [0, 1, 2] rfl rfl⟩
      ·clear hj
       have h := h'
       clear h' H
       rintro e a w ⟨rfl, ρ, σ55, rfl, rfl, H⟩
       refine q_then ?_
       refine cd_cond o37 rfl (fun hb56 => ?_) (fun hb56 => ?_)
       ·replace h := bif_t hb56 h
        refine rg ?_
        refine st (v := (Sl a23 s21.1 c24)) (rv_move rfl) ?_
        refine st (v := (Sl aa_0 a_0 ca_0)) (rv_move rfl) ?_
        refine st (v := (I s21.2)) (rv_move rfl) ?_
        obtain ⟨x57, hx58, h'⟩ := bind_some h
        clear h
        have h := h'; clear h'
        obtain ⟨b60, o61, hi59, -⟩ := (H.ro 0 rfl).ix hx58
        refine st (v := (pt b60 o61)) (rv_ix Try.underlying23 ti40 rfl rfl hi59) ?_
        obtain ⟨_, ⟨_, _, rfl, rfl, rfl⟩, hl62, hc63⟩ := ((H.ro 0 rfl).at hx58 hi59).cells
        refine st (v := (.agg #[(I x57.1), (I x57.2)])) (rv_load Try.underlying40 rfl ti40 rfl hl62 hc63) ?_
        refine st (v := (I k_2)) (rv_move rfl) ?_
        obtain ⟨σ64, hw65, H, -⟩ := H.pub 2 rfl (Nat.le_refl _)
        rw [← hw65]; clear hw65
        replace H := H.roLow 0 0 rfl (Nat.zero_le _)
        obtain ⟨r66, hx67, h'⟩ := bind_some h
        clear h
        have h := h'; clear h'
        have hc68 := c_spec_addHit (alist_0 := a23) (clist_0 := c24) hx67
        refine st_call (cx_call hc68 (ent_f hc68.fn rfl) hn0 (show Hp S0 σ0 _ ([Ch.ro 0 (Sl a23 s21.1 c24) s21.1] ++ [Ch.ro 0 (Sl a23 s21.1 c24) s21.1, Ch.ro n0 (Sl a23 s21.1 c24) s21.1, Ch.ro 0 (Sl aa_0 a_0 ca_0) a_0, Ch.ro 0 (Sl ab_1 b_1 cb_1) b_1]) from (H.sel' [0, 0, 1, 2, 3] rfl rfl))) wn ?_
        rintro _ σ71 ⟨_, ⟨a69, c70, rfl, rfl⟩, H, -⟩
        replace H : Hp S0 σ0 σ71 [Ch.own n0 n0 (Sl a69 r66 c70) r66, Ch.ro 0 (Sl a23 s21.1 c24) s21.1, Ch.ro n0 (Sl a23 s21.1 c24) s21.1, Ch.ro 0 (Sl aa_0 a_0 ca_0) a_0, Ch.ro 0 (Sl ab_1 b_1 cb_1) b_1] := H
        refine st (v := (Sl a69 r66 c70)) (rv_assign rfl) ?_
        refine w_end ?_
        refine q_blk ?_
        obtain rfl := Option.some.inj h
        exact ⟨rfl, _, σ71, a69, c70, fr_join ⟨rfl, rfl, rfl, rfl, rfl, trivial⟩, rfl, H.sel' [3, 4, 0] rfl rfl⟩
       ·replace h := bif_f hb56 h
        refine c_skip ?_
        refine q_blk ?_
        obtain rfl := Option.some.inj h
        exact ⟨rfl, _, σ55, a23, c24, fr_join ⟨rfl, rfl, rfl, rfl, rfl, trivial⟩, rfl, H.sel' [0, 1, 2] rfl rfl⟩
     ·clear hj
      have h := h'
      clear h' H
      rintro e a w ⟨rfl, ρ, σ72, a73, c74, rfl, rfl, H⟩
      refine q_then ?_
      refine rg ?_
      refine st (v := (I s21.2)) (rv_move rfl) ?_
      refine st (v := (I (w64 (s21.2 + 1)))) (rv_add (a := s21.2) (b := 1) rfl rfl) ?_
      refine st (v := (I (w64 (s21.2 + 1)))) (rv_assign rfl) ?_
      refine w_end ?_
      refine q_then ?_
      obtain rfl := Option.some.inj h
      exact ⟨_, rfl, _, σ72, a73, c74, fr_join ⟨rfl, rfl, rfl, rfl, rfl, trivial⟩, rfl, H.sel' [0, 1, 2] rfl rfl⟩
    ·replace h := bif_f hb25 h
     refine c_exit ?_
     refine q_then_x ?_
     refine q_then_x ?_
     refine q_blk_hit ?_
     obtain rfl := Option.some.inj h
     obtain rfl := hres _ rfl
     exact ⟨rfl, _, σ22, a23, c24, fr_join ⟨rfl, rfl, rfl, rfl, trivial⟩, rfl, H.sel' [0, 1, 2] rfl rfl⟩
   ·clear hj
    have h := h'
    clear h' H
    rintro e a w ⟨rfl, ρ, σ75, a76, c77, rfl, rfl, H⟩
    refine q_then ?_
    refine c_seq ?_
    refine c_seq ?_
    refine rg ?_
    refine st (v := (I 0)) (rv_assign rfl) ?_
    refine w_end ?_
    refine q_then ?_
    obtain ⟨o78, hj, h'⟩ := bind_some h
    clear h
    refine c_cut (fun e a w => e = .normal ∧ ∃ (ρ : Nat → Value) (σ : St) (aj1 : Option Addr) (cj2 : Nat), a = fr 97 (updL ρ [(7, (Sl aj1 o78 cj2))]) ∧ w = σ.w ∧ Hp S0 σ0 σ [Ch.own n0 n0 (Sl aj1 o78 cj2) o78]) ?_ ?_
    ·clear h'
     rename _ = some o78 => h
     refine c_blk ?_
     refine wp_loopM _ h (fun s79 a w => ∃ (ρ : Nat → Value) (σ : St) (aj1 : Option Addr) (cj2 : Nat), a = fr 97 (updL ρ [(0, (Sl aa_0 a_0 ca_0)), (1, (Sl ab_1 b_1 cb_1)), (2, (I k_2)), (7, (Sl aj1 s79.1 cj2)), (10, (I s79.2))]) ∧ w = σ.w ∧ Hp S0 σ0 σ [Ch.ro 0 (Sl aa_0 a_0 ca_0) a_0, Ch.ro 0 (Sl ab_1 b_1 cb_1) b_1, Ch.own n0 n0 (Sl aj1 s79.1 cj2) s79.1]) ⟨_, σ75, a76, c77, fr_join ⟨rfl, rfl, rfl, rfl, rfl, trivial⟩, rfl, H.sel' [0, 1, 2] rfl rfl⟩ ?_
     clear h H
     rintro s79 a w o ⟨ρ, σ80, a81, c82, rfl, rfl, H⟩ h hres
     refine c_seq ?_
     refine c_seq ?_
     refine rg ?_
     refine st (v := (I s79.2)) (rv_move rfl) ?_
     refine st (v := (Sl ab_1 b_1 cb_1)) (rv_move rfl) ?_
     refine st (v := (I (b_1.length : Int))) (rv_len Try.underlying23 rfl) ?_
     refine st (v := (B (decide (s79.2 < (b_1.length : Int))))) (rv_lss (a := s79.2) (b := (b_1.length : Int)) rfl rfl) ?_
     refine w_end ?_
     refine q_then ?_
     refine cd_cond (decide (s79.2 < (b_1.length : Int))) rfl (fun hb83 => ?_) (fun hb83 => ?_)
     ·replace h := bif_t hb83 h
      refine c_skip ?_
      refine q_then ?_
      refine c_seq ?_
      obtain ⟨o84, hj, h'⟩ := bind_some h
      clear h
      refine c_cut (fun e a w => e = .normal ∧ ∃ (ρ : Nat → Value) (σ : St) (aj1 : Option Addr) (cj2 : Nat), a = fr 97 (updL ρ [(0, (Sl aa_0 a_0 ca_0)), (1, (Sl ab_1 b_1 cb_1)), (2, (I k_2)), (7, (Sl aj1 o84 cj2)), (10, (I s79.2))]) ∧ w = σ.w ∧ Hp S0 σ0 σ [Ch.ro 0 (Sl aa_0 a_0 ca_0) a_0, Ch.ro 0 (Sl ab_1 b_1 cb_1) b_1, Ch.own n0 n0 (Sl aj1 o84 cj2) o84]) ?_ ?_
      ·clear h'
       rename _ = some o84 => h
       refine c_blk ?_
       refine c_seq ?_
       refine rg ?_
       refine st (v := (Sl aa_0 a_0 ca_0)) (rv_move rfl) ?_
       refine st (v := (Sl ab_1 b_1 cb_1)) (rv_move rfl) ?_
       refine st (v := (I s79.2)) (rv_move rfl) ?_
       obtain ⟨x85, hx86, h'⟩ := bind_some h
       clear h
       have h := h'; clear h'
       obtain ⟨b88, o89, hi87, -⟩ := (H.ro 1 rfl).ix hx86
       refine st (v := (pt b88 o89)) (rv_ix Try.underlying23 ti40 rfl rfl hi87) ?_
       refine st (v := (pt b88 (o89 + 0))) (rv_fieldAddr (off := 0) (ft := 3) Try.underlying40 rfl ti3 rfl rfl) ?_
       have hc90 := ((H.ro 1 rfl).at hx86 hi87).fst.int
       refine st (v := (I x85.1)) (rv_load1 Try.underlying3 rfl rfl hc90) ?_
       obtain ⟨r91, hx92, h'⟩ := bind_some h
       clear h
       have h := h'; clear h'
       have hc93 := c_spec_hitAt (alist_0 := aa_0) (clist_0 := ca_0) hx92
       refine st_call (cx_call hc93 (ent_f hc93.fn rfl) hn0 (show Hp S0 σ0 _ ([Ch.ro 0 (Sl aa_0 a_0 ca_0) a_0] ++ [Ch.ro 0 (Sl aa_0 a_0 ca_0) a_0, Ch.ro 0 (Sl ab_1 b_1 cb_1) b_1, Ch.own n0 n0 (Sl a81 s79.1 c82) s79.1]) from (H.sel' [0, 0, 1, 2] rfl rfl))) wn ?_
       rintro _ σ94 ⟨_, ⟨rfl, rfl⟩, H, -⟩
       replace H : Hp S0 σ0 σ94 [Ch.ro 0 (Sl aa_0 a_0 ca_0) a_0, Ch.ro 0 (Sl ab_1 b_1 cb_1) b_1, Ch.own n0 n0 (Sl a81 s79.1 c82) s79.1] := H
       refine st (v := (I r91)) (rv_assign rfl) ?_
       refine w_end ?_
       refine q_then ?_
       refine c_seq ?_
       obtain ⟨o95, hj, h'⟩ := bind_some h
       clear h
       refine c_cut (fun e a w => e = .normal ∧ ∃ (ρ : Nat → Value) (σ : St), a = fr 97 (updL ρ [(0, (Sl aa_0 a_0 ca_0)), (1, (Sl ab_1 b_1 cb_1)), (2, (I k_2)), (7, (Sl a81 s79.1 c82)), (10, (I s79.2)), (88, (B o95))]) ∧ w = σ.w ∧ Hp S0 σ0 σ [Ch.ro 0 (Sl aa_0 a_0 ca_0) a_0, Ch.ro 0 (Sl ab_1 b_1 cb_1) b_1, Ch.own n0 n0 (Sl a81 s79.1 c82) s79.1]) ?_ ?_
       ·clear h'
        rename _ = some o95 => h
        refine rgP (σ := σ94) 13 (by kernel_rfl) (by kernel_rfl) (by kernel_rfl) ?_
        refine sq (v := (I r91)) (rv_move rfl) ?_
        refine sq (v := (B (decide (r91 < 0)))) (rv_lss (a := r91) (b := 0) rfl rfl) ?_
        refine sq (v := (B (decide (r91 < 0)))) (rv_move rfl) ?_
        rcases Bool.eq_false_or_eq_true (decide (r91 < 0)) with hb96 | hb96
        ·replace h := bif_t hb96 h
         refine sq_skip (congrArg some hb96) ?_
         refine sq_skip (congrArg some hb96) ?_
         refine sq_skip (congrArg some hb96) ?_
         refine sq_skip (congrArg some hb96) ?_
         refine sq_skip (congrArg some hb96) ?_
         refine sq_skip (congrArg some hb96) ?_
         refine sq_skip (congrArg some hb96) ?_
         refine sq_skip (congrArg some hb96) ?_
         refine sq_skip (congrArg some hb96) ?_
         refine sq_skip (congrArg some hb96) ?_
         refine sq_end ?_
         intro σ97 hm98
         replace H := H.grow (hm98.mono fun _ h => h); clear hm98
         refine st_skip (congrArg some hb96) ?_
         refine st (v := (B true)) (rv_pick_t (congrArg B hb96) rfl) ?_
         refine w_end ?_
         obtain rfl := Option.some.inj h
         exact ⟨rfl, _, σ97, fr_join ⟨rfl, rfl, rfl, rfl, rfl, rfl, trivial⟩, rfl, H.sel' [0, 1, 2] rfl rfl⟩
        ·replace h := bif_f hb96 h
         refine sq_g (v := (Sl ab_1 b_1 cb_1)) (congrArg some hb96) (rv_move rfl) ?_
         refine sq_g (v := (I s79.2)) (congrArg some hb96) (rv_move rfl) ?_
         obtain ⟨x99, hx100, h'⟩ := bind_some h
         clear h
         have h := h'; clear h'
         obtain ⟨b102, o103, hi101, -⟩ := (H.ro 1 rfl).ix hx100
         refine sq_g (v := (pt b102 o103)) (congrArg some hb96) (rv_ix Try.underlying23 ti40 rfl rfl hi101) ?_
         refine sq_g (v := (pt b102 (o103 + 1))) (congrArg some hb96) (rv_fieldAddr (off := 1) (ft := 3) Try.underlying40 rfl ti3 rfl rfl) ?_
         have hc104 := ((H.ro 1 rfl).at hx100 hi101).snd.int
         refine sq_g (v := (I x99.2)) (congrArg some hb96) (rv_load1 Try.underlying3 rfl rfl hc104) ?_
         refine sq_g (v := (Sl aa_0 a_0 ca_0)) (congrArg some hb96) (rv_move rfl) ?_
         refine sq_g (v := (I r91)) (congrArg some hb96) (rv_move rfl) ?_
         obtain ⟨x105, hx106, h'⟩ := bind_some h
         clear h
         have h := h'; clear h'
         obtain ⟨b108, o109, hi107, -⟩ := (H.ro 0 rfl).ix hx106
         refine sq_g (v := (pt b108 o109)) (congrArg some hb96) (rv_ix Try.underlying23 ti40 rfl rfl hi107) ?_
         refine sq_g (v := (pt b108 (o109 + 1))) (congrArg some hb96) (rv_fieldAddr (off := 1) (ft := 3) Try.underlying40 rfl ti3 rfl rfl) ?_
         have hc110 := ((H.ro 0 rfl).at hx106 hi107).snd.int
         refine sq_g (v := (I x105.2)) (congrArg some hb96) (rv_load1 Try.underlying3 rfl rfl hc110) ?_
         refine sq_end ?_
         intro σ111 hm112
         replace H := H.grow (hm112.mono fun _ h => h); clear hm112
         refine st_g (v := (B (decide (x99.2 < x105.2)))) (congrArg some hb96) (rv_lss (a := x99.2) (b := x105.2) rfl rfl) ?_
         refine st (v := (B (decide (x99.2 < x105.2)))) (rv_pick_f (congrArg B hb96) rfl) ?_
         refine w_end ?_
         obtain rfl := Option.some.inj h
         exact ⟨rfl, _, σ111, fr_join ⟨rfl, rfl, rfl, rfl, rfl, rfl, trivial⟩, rfl, H.sel' [0, 1, 2] rfl rfl⟩
       ·clear hj
        have h := h'
        clear h' H
        rintro e a w ⟨rfl, ρ, σ113, rfl, rfl, H⟩
        refine q_then ?_
        refine cd_cond o95 rfl (fun hb114 => ?_) (fun hb114 => ?_)
        ·replace h := bif_t hb114 h
         refine rg ?_
         refine st (v := (Sl a81 s79.1 c82)) (rv_move rfl) ?_
         refine st (v := (Sl ab_1 b_1 cb_1)) (rv_move rfl) ?_
         refine st (v := (I s79.2)) (rv_move rfl) ?_
         obtain ⟨x115, hx116, h'⟩ := bind_some h
         clear h
         have h := h'; clear h'
         obtain ⟨b118, o119, hi117, -⟩ := (H.ro 1 rfl).ix hx116
         refine st (v := (pt b118 o119)) (rv_ix Try.underlying23 ti40 rfl rfl hi117) ?_
         obtain ⟨_, ⟨_, _, rfl, rfl, rfl⟩, hl120, hc121⟩ := ((H.ro 1 rfl).at hx116 hi117).cells
         refine st (v := (.agg #[(I x115.1), (I x115.2)])) (rv_load Try.underlying40 rfl ti40 rfl hl120 hc121) ?_
         refine st (v := (I k_2)) (rv_move rfl) ?_
         obtain ⟨σ122, hw123, H, -⟩ := H.pub 2 rfl (Nat.le_refl _)
         rw [← hw123]; clear hw123
         replace H := H.roLow 0 0 rfl (Nat.zero_le _)
         obtain ⟨r124, hx125, h'⟩ := bind_some h
         clear h
         have h := h'; clear h'
         have hc126 := c_spec_addHit (alist_0 := a81) (clist_0 := c82) hx125
         refine st_call (cx_call hc126 (ent_f hc126.fn rfl) hn0 (show Hp S0 σ0 _ ([Ch.ro 0 (Sl a81 s79.1 c82) s79.1] ++ [Ch.ro 0 (Sl a81 s79.1 c82) s79.1, Ch.ro n0 (Sl a81 s79.1 c82) s79.1, Ch.ro 0 (Sl aa_0 a_0 ca_0) a_0, Ch.ro 0 (Sl ab_1 b_1 cb_1) b_1]) from (H.sel' [0, 0, 1, 2, 3] rfl rfl))) wn ?_
         rintro _ σ129 ⟨_, ⟨a127, c128, rfl, rfl⟩, H, -⟩
         replace H : Hp S0 σ0 σ129 [Ch.own n0 n0 (Sl a127 r124 c128) r124, Ch.ro 0 (Sl a81 s79.1 c82) s79.1, Ch.ro n0 (Sl a81 s79.1 c82) s79.1, Ch.ro 0 (Sl aa_0 a_0 ca_0) a_0, Ch.ro 0 (Sl ab_1 b_1 cb_1) b_1] := H
         refine st (v := (Sl a127 r124 c128)) (rv_assign rfl) ?_
         refine w_end ?_
         refine q_blk ?_
         obtain rfl := Option.some.inj h
         exact ⟨rfl, _, σ129, a127, c128, fr_join ⟨rfl, rfl, rfl, rfl, rfl, trivial⟩, rfl, H.sel' [3, 4, 0] rfl rfl⟩
        ·replace h := bif_f hb114 h
         refine c_skip ?_
         refine q_blk ?_
         obtain rfl := Option.some.inj h
         exact ⟨rfl, _, σ113, a81, c82, fr_join ⟨rfl, rfl, rfl, rfl, rfl, trivial⟩, rfl, H.sel' [0, 1, 2] rfl rfl⟩
      ·clear hj
       have h := h'
       clear h' H
       rintro e a w ⟨rfl, ρ, σ130, a131, c132, rfl, rfl, H⟩
       refine q_then ?_
       refine rg ?_
       refine st (v := (I s79.2)) (rv_move rfl) ?_
       refine st (v := (I (w64 (s79.2 + 1)))) (rv_add (a := s79.2) (b := 1) rfl rfl) ?_
       refine st (v := (I (w64 (s79.2 + 1)))) (rv_assign rfl) ?_
       refine w_end ?_
       refine q_then ?_
       obtain rfl := Option.some.inj h
       exact ⟨_, rfl, _, σ130, a131, c132, fr_join ⟨rfl, rfl, rfl, rfl, rfl, trivial⟩, rfl, H.sel' [0, 1, 2] rfl rfl⟩
     ·replace h := bif_f hb83 h
      refine c_exit ?_
      refine q_then_x ?_
      refine q_then_x ?_
      refine q_blk_hit ?_
      obtain rfl := Option.some.inj h
      obtain rfl := hres _ rfl
      exact ⟨rfl, _, σ80, a81, c82, fr_join ⟨rfl, trivial⟩, rfl, H.sel' [2] rfl rfl⟩
    ·clear hj
     have h := h'
     clear h' H
     rintro e a w ⟨rfl, ρ, σ133, a134, c135, rfl, rfl, H⟩
     refine q_then ?_
     refine c_seq ?_
     refine rg ?_
     refine st (v := (Sl a134 o78 c135)) (rv_move rfl) ?_
     refine st (v := (Sl a134 o78 c135)) (rv_assign rfl) ?_
     refine w_end ?_
     refine q_then ?_
     refine c_ret ?_
     obtain rfl := Option.some.inj h
     exact fin_ret (v := (Sl a134 o78 c135)) (results_ok Try.results26 (res_tmp (v := (Sl a134 o78 c135)) rfl res_nil) rfl) ⟨a134, c135, rfl, rfl⟩ (H.sel' [0] rfl rfl)

end Go.Vs
