/- The functions compute what their models say. -/
import Derived.Test.YtnkflplbeagljaaGreatKCodeNearestC3
set_option linter.unusedVariables false
set_option linter.unusedSimpArgs false
set_option maxRecDepth 20000
namespace Go.Vs
open Go Go.Proofs
attribute [local irreducible] Code.wp Code.wpIn wpList wpListIn wpQuiet Calls CallsIn

theorem c_impl_nearestHits_offer {Cb : Int × (List (Int × Int))} {Ec : Int × Int} {Ed : Option Addr} {Ee : Nat} {Ef Eg Eh : Nat} {Ei Ej : List Value} {r : (Int × (List (Int × Int)))} (h : M.impl_nearestHits_offer Cb Ec = some r) :
    Cal2 Tryz.prog 112 [(pt Eg Eh), (.agg #[(I Ec.1), (I Ec.2)])] [Ch.bx Ef Eg Eh [(I Cb.1), (Sl Ed Cb.2 Ee)] Ei Ej, Ch.own 0 0 (Sl Ed Cb.2 Ee) Cb.2] (fun n0 v L => ∃ (az1 : Option Addr), ∃ (cz2 : Nat), v = (.tuple #[]) ∧ L = [Ch.bx Ef Eg Eh [(I r.1), (Sl az1 r.2 cz2)] Ei Ej, Ch.own 0 0 (Sl az1 r.2 cz2) r.2]) := by
 refine cal2 (n := 26) Tryz.func112 rfl rfl rfl rfl ?_
 intro S0 σ0 n0 hn0 H
 unfold M.impl_nearestHits_offer at h
 refine c_seq (rg (st_ex (ex_box (cs := [(I Ec.1), (I Ec.2)]) H hn0 rfl rfl) wn ?_))
 rintro _ σ2 ⟨b1, rfl, H, -⟩
 refine w_end (q_then (c_seq ?_))
 refine rgP (σ := σ2) 6 (by kernel_rfl) (by kernel_rfl) (by kernel_rfl) ?_
 refine sq (v := (pt Eg Eh)) (rv_move rfl) (sq (v := (pt Eg Eh)) (rv_nilCheck rfl) (sq (v := (pt Eg (Eh + 1))) (rv_fieldAddr (off := 1) (ft := 114) Tryz.underlying116 rfl ti114 rfl rfl) (sq (v := (.iface 131 (pt Eg (Eh + 1)))) (rv_makeInterface Tryz.underlying131 rfl rfl) ?_)))
 have hc3 := H.cells 0 rfl
 refine sq (v := (.agg #[(I Ec.1), (I Ec.2)])) (rv_load (cs := [(I Ec.1), (I Ec.2)]) Tryz.underlying44 rfl ti44 rfl rfl hc3) (sq (v := (.iface 44 (.agg #[(I Ec.1), (I Ec.2)]))) (rv_makeInterface Tryz.underlying44 rfl rfl) (sq_end ?_))
 intro σ4 hm5
 replace H := H.grow (hm5.mono fun _ h => h); clear hm5
 replace H := Hp.focus (c1 := [(I Cb.1)]) (c2 := [(Sl Ed Cb.2 Ee)]) (c3 := []) (o' := (Eh + 1)) H 1 rfl rfl
 revert h; refine br fun r6 hx7 h => ?_
 have hc8 := c_container_heap_Push__impl_hitHeap__impl_Hit (Dt := Ef) (Du := Eg) (Dv := (Eh + 1)) (Dw := (Ei ++ [(I Cb.1)])) (Dx := ([] ++ Ej)) (Dr := Ed) (Ds := Ee) hx7
 refine st_call (cx_call hc8 (ent_f hc8.fn rfl) hn0 (H.sel' [0, 2, 1] rfl rfl : Hp S0 σ0 _ ([_, _] ++ _))) wn ?_
 rintro _ σ11 ⟨_, ⟨a9, c10, rfl, rfl⟩, H, -⟩
 replace H : Hp _ _ _ [_, _, _] := H
 replace H : Hp S0 σ0 σ11 [Ch.bx Ef Eg Eh [(I Cb.1), (Sl a9 r6 c10)] Ei Ej, Ch.own 0 0 (Sl a9 r6 c10) r6, Ch.bx n0 b1 0 [(I Ec.1), (I Ec.2)] [] []] := Hp.unfocus (o := Eh) (c1 := [(I Cb.1)]) (c2 := [(Sl a9 r6 c10)]) (c3 := []) (pre := Ei) (suf := Ej) H 0 rfl rfl
 refine w_end (q_then (c_seq ?_))
 refine rgP (σ := σ11) 9 (by kernel_rfl) (by kernel_rfl) (by kernel_rfl) ?_
 refine sq (v := (pt Eg Eh)) (rv_move rfl) (sq (v := (pt Eg Eh)) (rv_nilCheck rfl) (sq (v := (pt Eg (Eh + 1))) (rv_fieldAddr (off := 1) (ft := 114) Tryz.underlying116 rfl ti114 rfl rfl) ?_))
 have hc12 := H.cell (u := (Sl a9 r6 c10)) (o' := (Eh + 1)) 0 1 rfl rfl rfl
 refine sq (v := (Sl a9 r6 c10)) (rv_load1 Tryz.underlying114 rfl rfl hc12) (sq (v := (I (r6.length : Int))) (rv_len Tryz.underlying114 rfl) (sq (v := (pt Eg Eh)) (rv_move rfl) (sq (v := (pt Eg Eh)) (rv_nilCheck rfl) (sq (v := (pt Eg Eh)) (rv_fieldAddr (off := 0) (ft := 3) Tryz.underlying116 rfl ti3 rfl rfl) ?_))))
 have hc13 := H.cell (u := (I Cb.1)) (o' := Eh) 0 0 rfl rfl rfl
 refine sq (v := (I Cb.1)) (rv_load1 Tryz.underlying3 rfl rfl hc13) (sq_end ?_)
 intro σ14 hm15
 replace H := H.grow (hm15.mono fun _ h => h); clear hm15
 refine st (v := (B (decide (Cb.1 < (r6.length : Int))))) (rv_gtr (a := (r6.length : Int)) (b := Cb.1) rfl rfl) (w_end (q_then ?_))
 refine cd_cond (decide (Cb.1 < (r6.length : Int))) rfl (fun hb16 => ?_) (fun hb16 => ?_)
 ·replace h := bif_t hb16 h
  refine rg (sm (pt Eg Eh) rfl (st (v := (pt Eg Eh)) (rv_nilCheck rfl) (st (v := (pt Eg (Eh + 1))) (rv_fieldAddr (off := 1) (ft := 114) Tryz.underlying116 rfl ti114 rfl rfl) (st (v := (.iface 131 (pt Eg (Eh + 1)))) (rv_makeInterface Tryz.underlying131 rfl rfl) ?_))))
  replace H := Hp.focus (c1 := [(I Cb.1)]) (c2 := [(Sl a9 r6 c10)]) (c3 := []) (o' := (Eh + 1)) H 0 rfl rfl
  revert h; refine br fun r17 hx18 h => ?_
  have hc19 := c_container_heap_Pop__impl_hitHeap (Dt := Ef) (Du := Eg) (Dv := (Eh + 1)) (Dw := (Ei ++ [(I Cb.1)])) (Dx := ([] ++ Ej)) (Dr := a9) (Ds := c10) hx18
  refine st_call (cx_call hc19 (ent_f hc19.fn rfl) hn0 (H.sel' [0, 1, 2] rfl rfl : Hp S0 σ0 _ ([_, _] ++ _))) wn ?_
  rintro _ σ22 ⟨_, ⟨a20, c21, rfl, rfl⟩, H, -⟩
  replace H : Hp _ _ _ [_, _, _] := H
  replace H : Hp S0 σ0 σ22 [Ch.bx Ef Eg Eh [(I Cb.1), (Sl a20 r17.2 c21)] Ei Ej, Ch.own 0 0 (Sl a20 r17.2 c21) r17.2, Ch.bx n0 b1 0 [(I Ec.1), (I Ec.2)] [] []] := Hp.unfocus (o := Eh) (c1 := [(I Cb.1)]) (c2 := [(Sl a20 r17.2 c21)]) (c3 := []) (pre := Ei) (suf := Ej) H 0 rfl rfl
  refine w_end ?_
  obtain rfl := sj h
  exact fin_end (v := (.tuple #[])) (results_ok Tryz.results112 res_nil rfl) ⟨a20, c21, rfl, rfl⟩ (H.sel' [0, 1] rfl rfl)
 ·replace h := bif_f hb16 h
  refine c_skip ?_
  obtain rfl := sj h
  exact fin_end (v := (.tuple #[])) (results_ok Tryz.results112 res_nil rfl) ⟨a9, c10, rfl, rfl⟩ (H.sel' [0, 1] rfl rfl)

theorem c_slices_xorshift_Next {Bn : Int} {Br Bs Bt : Nat} {Bu Bv : List Value} {r : Int × Int} (h : M.slices_xorshift_Next Bn = some r) :
    Cal2 Tryz.prog 175 [(pt Bs Bt)] [Ch.bx Br Bs Bt [(.int .u64 Bn)] Bu Bv] (fun n0 v L => v = (.int .u64 r.1) ∧ L = [Ch.bx Br Bs Bt [(.int .u64 r.2)] Bu Bv]) := by
 refine cal2 (n := 33) Tryz.func175 rfl rfl rfl rfl ?_
 intro S0 σ0 n0 hn0 H
 unfold M.slices_xorshift_Next at h
 refine c_seq (rg (sa (.int .u64 0) rfl (w_end (q_then (c_seq ?_)))))
 refine rgP (σ := σ0) 7 (by kernel_rfl) (by kernel_rfl) (by kernel_rfl) ?_
 refine sq (v := (pt Bs Bt)) (rv_move rfl) (sq (v := (pt Bs Bt)) (rv_nilCheck rfl) ?_)
 have hc1 := H.cell (u := (.int .u64 Bn)) (o' := Bt) 0 0 rfl rfl rfl
 refine sq (v := (.int .u64 Bn)) (rv_load1 Tryz.underlying168 rfl rfl hc1) (sq (v := (pt Bs Bt)) (rv_move rfl) (sq (v := (pt Bs Bt)) (rv_nilCheck rfl) ?_))
 have hc2 := H.cell (u := (.int .u64 Bn)) (o' := Bt) 0 0 rfl rfl rfl
 refine sq (v := (.int .u64 Bn)) (rv_load1 Tryz.underlying168 rfl rfl hc2) ?_
 refine sq (v := (.int .u64 (gshl .u64 Bn 13))) (rvk_shl (k := .u64) (k' := .u64) (a := Bn) (b := 13) rfl rfl (by decide)) ?_
 refine sq_end ?_
 intro σ3 hm4
 replace H := H.grow (hm4.mono fun _ h => h); clear hm4
 refine st (v := (.int .u64 (gxork .u64 Bn (gshl .u64 Bn 13)))) (rvk_xor (k := .u64) (a := Bn) (b := (gshl .u64 Bn 13)) rfl rfl) (st (v := (pt Bs Bt)) (rv_nilCheck rfl) ?_)
 refine st_exS (ex_store_box (k := 0) (cs := [(.int .u64 Bn)]) (vs := [(.int .u64 (gxork .u64 Bn (gshl .u64 Bn 13)))]) (cs' := [(.int .u64 (gxork .u64 Bn (gshl .u64 Bn 13)))]) H (i := 0) rfl ti168 rfl rfl rfl rfl rfl (Nat.le_of_ble_eq_true rfl) (by simp [plain]) rfl) wn ?_
 rintro σ5 ⟨H, -⟩
 refine w_end (q_then (c_seq ?_))
 refine rgP (σ := σ5) 7 (by kernel_rfl) (by kernel_rfl) (by kernel_rfl) ?_
 refine sq (v := (pt Bs Bt)) (rv_move rfl) (sq (v := (pt Bs Bt)) (rv_nilCheck rfl) ?_)
 have hc6 := H.cell (u := (.int .u64 (gxork .u64 Bn (gshl .u64 Bn 13)))) (o' := Bt) 0 0 rfl rfl rfl
 refine sq (v := (.int .u64 (gxork .u64 Bn (gshl .u64 Bn 13)))) (rv_load1 Tryz.underlying168 rfl rfl hc6) (sq (v := (pt Bs Bt)) (rv_move rfl) (sq (v := (pt Bs Bt)) (rv_nilCheck rfl) ?_))
 have hc7 := H.cell (u := (.int .u64 (gxork .u64 Bn (gshl .u64 Bn 13)))) (o' := Bt) 0 0 rfl rfl rfl
 refine sq (v := (.int .u64 (gxork .u64 Bn (gshl .u64 Bn 13)))) (rv_load1 Tryz.underlying168 rfl rfl hc7) ?_
 refine sq (v := (.int .u64 (gshr .u64 (gxork .u64 Bn (gshl .u64 Bn 13)) 7))) (rvk_shr (k := .u64) (k' := .u64) (a := (gxork .u64 Bn (gshl .u64 Bn 13))) (b := 7) rfl rfl (by decide)) ?_
 refine sq_end ?_
 intro σ8 hm9
 replace H := H.grow (hm9.mono fun _ h => h); clear hm9
 refine st (v := (.int .u64 (gxork .u64 (gxork .u64 Bn (gshl .u64 Bn 13)) (gshr .u64 (gxork .u64 Bn (gshl .u64 Bn 13)) 7)))) (rvk_xor (k := .u64) (a := (gxork .u64 Bn (gshl .u64 Bn 13))) (b := (gshr .u64 (gxork .u64 Bn (gshl .u64 Bn 13)) 7)) rfl rfl) (st (v := (pt Bs Bt)) (rv_nilCheck rfl) ?_)
 refine st_exS (ex_store_box (k := 0) (cs := [(.int .u64 (gxork .u64 Bn (gshl .u64 Bn 13)))]) (vs := [(.int .u64 (gxork .u64 (gxork .u64 Bn (gshl .u64 Bn 13)) (gshr .u64 (gxork .u64 Bn (gshl .u64 Bn 13)) 7)))]) (cs' := [(.int .u64 (gxork .u64 (gxork .u64 Bn (gshl .u64 Bn 13)) (gshr .u64 (gxork .u64 Bn (gshl .u64 Bn 13)) 7)))]) H (i := 0) rfl ti168 rfl rfl rfl rfl rfl (Nat.le_of_ble_eq_true rfl) (by simp [plain]) rfl) wn ?_
 rintro σ10 ⟨H, -⟩
 refine w_end (q_then (c_seq ?_))
 refine rgP (σ := σ10) 7 (by kernel_rfl) (by kernel_rfl) (by kernel_rfl) ?_
 refine sq (v := (pt Bs Bt)) (rv_move rfl) (sq (v := (pt Bs Bt)) (rv_nilCheck rfl) ?_)
 have hc11 := H.cell (u := (.int .u64 (gxork .u64 (gxork .u64 Bn (gshl .u64 Bn 13)) (gshr .u64 (gxork .u64 Bn (gshl .u64 Bn 13)) 7)))) (o' := Bt) 0 0 rfl rfl rfl
 refine sq (v := (.int .u64 (gxork .u64 (gxork .u64 Bn (gshl .u64 Bn 13)) (gshr .u64 (gxork .u64 Bn (gshl .u64 Bn 13)) 7)))) (rv_load1 Tryz.underlying168 rfl rfl hc11) (sq (v := (pt Bs Bt)) (rv_move rfl) (sq (v := (pt Bs Bt)) (rv_nilCheck rfl) ?_))
 have hc12 := H.cell (u := (.int .u64 (gxork .u64 (gxork .u64 Bn (gshl .u64 Bn 13)) (gshr .u64 (gxork .u64 Bn (gshl .u64 Bn 13)) 7)))) (o' := Bt) 0 0 rfl rfl rfl
 refine sq (v := (.int .u64 (gxork .u64 (gxork .u64 Bn (gshl .u64 Bn 13)) (gshr .u64 (gxork .u64 Bn (gshl .u64 Bn 13)) 7)))) (rv_load1 Tryz.underlying168 rfl rfl hc12) ?_
 refine sq (v := (.int .u64 (gshl .u64 (gxork .u64 (gxork .u64 Bn (gshl .u64 Bn 13)) (gshr .u64 (gxork .u64 Bn (gshl .u64 Bn 13)) 7)) 17))) (rvk_shl (k := .u64) (k' := .u64) (a := (gxork .u64 (gxork .u64 Bn (gshl .u64 Bn 13)) (gshr .u64 (gxork .u64 Bn (gshl .u64 Bn 13)) 7))) (b := 17) rfl rfl (by decide)) ?_
 refine sq_end ?_
 intro σ13 hm14
 replace H := H.grow (hm14.mono fun _ h => h); clear hm14
 refine st (v := (.int .u64 (gxork .u64 (gxork .u64 (gxork .u64 Bn (gshl .u64 Bn 13)) (gshr .u64 (gxork .u64 Bn (gshl .u64 Bn 13)) 7)) (gshl .u64 (gxork .u64 (gxork .u64 Bn (gshl .u64 Bn 13)) (gshr .u64 (gxork .u64 Bn (gshl .u64 Bn 13)) 7)) 17)))) (rvk_xor (k := .u64) (a := (gxork .u64 (gxork .u64 Bn (gshl .u64 Bn 13)) (gshr .u64 (gxork .u64 Bn (gshl .u64 Bn 13)) 7))) (b := (gshl .u64 (gxork .u64 (gxork .u64 Bn (gshl .u64 Bn 13)) (gshr .u64 (gxork .u64 Bn (gshl .u64 Bn 13)) 7)) 17)) rfl rfl) (st (v := (pt Bs Bt)) (rv_nilCheck rfl) ?_)
 refine st_exS (ex_store_box (k := 0) (cs := [(.int .u64 (gxork .u64 (gxork .u64 Bn (gshl .u64 Bn 13)) (gshr .u64 (gxork .u64 Bn (gshl .u64 Bn 13)) 7)))]) (vs := [(.int .u64 (gxork .u64 (gxork .u64 (gxork .u64 Bn (gshl .u64 Bn 13)) (gshr .u64 (gxork .u64 Bn (gshl .u64 Bn 13)) 7)) (gshl .u64 (gxork .u64 (gxork .u64 Bn (gshl .u64 Bn 13)) (gshr .u64 (gxork .u64 Bn (gshl .u64 Bn 13)) 7)) 17)))]) (cs' := [(.int .u64 (gxork .u64 (gxork .u64 (gxork .u64 Bn (gshl .u64 Bn 13)) (gshr .u64 (gxork .u64 Bn (gshl .u64 Bn 13)) 7)) (gshl .u64 (gxork .u64 (gxork .u64 Bn (gshl .u64 Bn 13)) (gshr .u64 (gxork .u64 Bn (gshl .u64 Bn 13)) 7)) 17)))]) H (i := 0) rfl ti168 rfl rfl rfl rfl rfl (Nat.le_of_ble_eq_true rfl) (by simp [plain]) rfl) wn ?_
 rintro σ15 ⟨H, -⟩
 refine w_end (q_then (c_seq (rg (sm (pt Bs Bt) rfl (st (v := (pt Bs Bt)) (rv_nilCheck rfl) ?_)))))
 have hc16 := H.cell (u := (.int .u64 (gxork .u64 (gxork .u64 (gxork .u64 Bn (gshl .u64 Bn 13)) (gshr .u64 (gxork .u64 Bn (gshl .u64 Bn 13)) 7)) (gshl .u64 (gxork .u64 (gxork .u64 Bn (gshl .u64 Bn 13)) (gshr .u64 (gxork .u64 Bn (gshl .u64 Bn 13)) 7)) 17)))) (o' := Bt) 0 0 rfl rfl rfl
 refine st (v := (.int .u64 (gxork .u64 (gxork .u64 (gxork .u64 Bn (gshl .u64 Bn 13)) (gshr .u64 (gxork .u64 Bn (gshl .u64 Bn 13)) 7)) (gshl .u64 (gxork .u64 (gxork .u64 Bn (gshl .u64 Bn 13)) (gshr .u64 (gxork .u64 Bn (gshl .u64 Bn 13)) 7)) 17)))) (rv_load1 Tryz.underlying168 rfl rfl hc16) (sa (.int .u64 (gxork .u64 (gxork .u64 (gxork .u64 Bn (gshl .u64 Bn 13)) (gshr .u64 (gxork .u64 Bn (gshl .u64 Bn 13)) 7)) (gshl .u64 (gxork .u64 (gxork .u64 Bn (gshl .u64 Bn 13)) (gshr .u64 (gxork .u64 Bn (gshl .u64 Bn 13)) 7)) 17))) rfl (w_end (q_then (c_ret ?_))))
 obtain rfl := sj h
 exact fin_ret (v := (.int .u64 (gxork .u64 (gxork .u64 (gxork .u64 Bn (gshl .u64 Bn 13)) (gshr .u64 (gxork .u64 Bn (gshl .u64 Bn 13)) 7)) (gshl .u64 (gxork .u64 (gxork .u64 Bn (gshl .u64 Bn 13)) (gshr .u64 (gxork .u64 Bn (gshl .u64 Bn 13)) 7)) 17)))) (results_ok Tryz.results175 (res_tmp (v := (.int .u64 (gxork .u64 (gxork .u64 (gxork .u64 Bn (gshl .u64 Bn 13)) (gshr .u64 (gxork .u64 Bn (gshl .u64 Bn 13)) 7)) (gshl .u64 (gxork .u64 (gxork .u64 Bn (gshl .u64 Bn 13)) (gshr .u64 (gxork .u64 Bn (gshl .u64 Bn 13)) 7)) 17)))) rfl res_nil) rfl) ⟨rfl, rfl⟩ (H.sel' [0] rfl rfl)

theorem c_slices_Values_impl_hitHeap_impl_Hit {Ax : List (Int × Int)} {Az : Option Addr} {Ba : Nat} {r : Unit} (h : M.slices_Values_impl_hitHeap_impl_Hit Ax = some r) :
    Cal2 Tryz.prog 141 [(Sl Az Ax Ba)] [Ch.ro 0 (Sl Az Ax Ba) Ax] (fun n0 v L => ∃ (bz1 : Nat), v = (.func (.func 155) #[] #[(pt bz1 0)]) ∧ L = [Ch.bx n0 bz1 0 [(Sl Az Ax Ba)] [] []]) := by
 refine cal2 (n := 4) Tryz.func141 rfl rfl rfl rfl ?_
 intro S0 σ0 n0 hn0 H
 unfold M.slices_Values_impl_hitHeap_impl_Hit at h
 refine c_seq (rg (st_ex (ex_box (cs := [(Sl Az Ax Ba)]) H hn0 rfl rfl) wn ?_))
 rintro _ σ2 ⟨b1, rfl, H, -⟩
 refine sa (.nilFunc) rfl (w_end (q_then (c_seq (rg (st (v := (.func (.func 155) #[] #[(pt b1 0)])) (rv_makeFunc (vs := [(pt b1 0)]) rfl) (sa (.func (.func 155) #[] #[(pt b1 0)]) rfl (w_end (q_then (c_ret ?_)))))))))
 obtain rfl := sj h
 exact fin_ret (v := (.func (.func 155) #[] #[(pt b1 0)])) (results_ok Tryz.results141 (res_tmp (v := (.func (.func 155) #[] #[(pt b1 0)])) rfl res_nil) rfl) ⟨b1, rfl, rfl⟩ (H.sel' [0] rfl rfl)

theorem it_slices_AppendSeq_impl_Hit_impl_Hit__slices_Values_impl_hitHeap_impl_Hit_1 {b o c l : Nat} {a : Option Addr} {xs : List (Int × Int)} {J : Nat → St → Prop} (hst : ∀ {i σ σ'}, J i σ → Md (fun _ => False) σ σ' → J i σ')
    (hbx : ∀ {i σ}, J i σ → HCell σ.w.heap b o = some (Sl a xs c) ∧ Rd 0 σ (Sl a xs c) xs) (hn : xs.length ≤ 2147483648)
    (hy : ∀ i, (h : i < xs.length) → ∀ σ, J i σ → YieldAt Fence.wide 0 Tryz.prog l [(.agg #[(I (xs[i]).1), (I (xs[i]).2)])].toArray σ.w fun e W' => e = .returned (.bool true) ∧ ∃ σ', W' = σ'.w ∧ J (i + 1) σ')
    (σ : St) (h0 : J 0 σ) : CallsIn Fence.wide 0 Tryz.prog 155 [.func (.yield l) #[] #[], (pt b o)].toArray σ.w fun e W' => (∃ v, e = .returned v) ∧ ∃ σ', W' = σ'.w ∧ J xs.length σ' := by
  refine enterI (n := 16) Tryz.func155 rfl rfl rfl ?_
  refine wpIn_seq ?_
  obtain ⟨hc, -⟩ := hbx h0
  refine rgI ?_
  refine stI nofun (v := (Sl a xs c)) (rv_load1 Tryz.underlying114 rfl rfl hc) ?_
  refine stI nofun (v := (I (xs.length : Int))) (rv_len Tryz.underlying114 rfl) ?_
  refine stI nofun (v := (I 0)) (rv_move rfl) ?_
  refine endI ?_
  refine q_then (wpIn_block ?_)
  refine wpIn_loop_ghost (fun k a' w' => ∃ i ρ σ, i + k = xs.length ∧ a' = fr 16 (updL ρ [(0, .func (.yield l) #[] #[]), (1, pt b o), (5, Sl a xs c), (6, I (xs.length : Int)), (7, I (i : Int))]) ∧ w' = σ.w ∧ J i σ) xs.length ⟨0, _, σ, by omega, fr_join ⟨rfl, rfl, rfl, rfl, rfl, trivial⟩, rfl, h0⟩ ?_
  clear hc h0
  rintro k _ _ ⟨i, ρ, σ, hik, rfl, rfl, hJ⟩
  refine wpIn_seq ?_
  refine rgI ?_
  refine stI nofun (v := (B (decide ((i : Int) < (xs.length : Int))))) (rv_lss (a := (i : Int)) (b := (xs.length : Int)) rfl rfl) ?_
  refine endI ?_
  refine q_then (wpIn_seq ?_)
  refine cdI_cond (decide ((i : Int) < (xs.length : Int))) rfl (fun hb => ?_) (fun hb => ?_)
  · have hlt : i < xs.length := by have := of_decide_eq_true hb; omega
    refine wpIn_skip ?_
    refine q_then (wpIn_seq ?_)
    refine wpIn_block ?_
    refine wpIn_seq ?_
    refine rgI ?_
    have hg : gidx xs (i : Int) = some xs[i] := gidx_at hlt
    obtain ⟨-, hR⟩ := hbx hJ
    obtain ⟨bx, ox, hi, hat⟩ := hR.ix hg
    obtain ⟨_, ⟨_, _, rfl, rfl, rfl⟩, hl, hcx⟩ := hat.cells
    refine stI nofun (v := (pt bx ox)) (rv_ix Tryz.underlying114 ti44 rfl rfl hi) ?_
    refine stI nofun (v := (.agg #[(I (xs[i]).1), (I (xs[i]).2)])) (rv_load (cs := [(I (xs[i]).1), (I (xs[i]).2)]) Tryz.underlying44 rfl ti44 rfl hl hcx) ?_
    have H : Hp (cov []) σ σ [] := Hp.begin trivial trivial
    refine stI_ex nofun (ex_alloc (lo := 0) H (Nat.zero_le _) ti44 rfl) ?_
    rintro _ σ2 ⟨b4, rfl, H, -⟩
    refine stI_exS nofun (ex_store_box (vs := [(I (xs[i]).1), (I (xs[i]).2)]) (k := 0) H (i := 0) rfl ti44 rfl rfl rfl rfl rfl (Nat.le_of_ble_eq_true rfl) (by simp [plain]) rfl) ?_
    rintro σ3 ⟨H, -⟩
    refine endI ?_
    refine q_then (wpIn_seq ?_)
    refine rgI ?_
    refine stI nofun (v := (.func (.yield l) #[] #[])) (rv_move rfl) ?_
    have hc4 := H.cells 0 rfl
    refine stI nofun (v := (.agg #[(I (xs[i]).1), (I (xs[i]).2)])) (rv_load (cs := [(I (xs[i]).1), (I (xs[i]).2)]) Tryz.underlying44 rfl ti44 rfl rfl hc4) ?_
    refine stI_yield (args := [(.agg #[(I (xs[i]).1), (I (xs[i]).2)])]) rfl rfl (hy i hlt σ3 (hst hJ H.md)) ?_
    rintro e w' ⟨rfl, σ4, rfl, hJ4⟩
    refine ⟨_, rfl, ?_⟩
    refine stI nofun (v := (B (!true))) (rv_not rfl) ?_
    refine endI ?_
    refine q_then ?_
    refine cdI_cond false rfl (fun hb => by cases hb) (fun _ => ?_)
    refine wpIn_skip ?_
    refine q_blk (q_then (rgI ?_))
    refine stI nofun (v := (I (w64 ((i : Int) + 1)))) (rv_add (a := (i : Int)) (b := 1) rfl rfl) ?_
    refine stI nofun (v := (I (w64 ((i : Int) + 1)))) (rv_move rfl) ?_
    refine endI ?_
    have e1 : w64 ((i : Int) + 1) = ((i + 1 : Nat) : Int) := w64_id (by omega) (by omega)
    rw [e1]
    refine q_then ?_
    exact ⟨k - 1, by omega, i + 1, _, σ4, by omega, fr_join ⟨rfl, rfl, rfl, rfl, rfl, trivial⟩, rfl, hJ4⟩
  · have hlt : ¬ i < xs.length := by have := of_decide_eq_false hb; omega
    have : i = xs.length := by omega
    subst this
    refine wpIn_exit ?_
    refine q_then_x (q_then_x (q_blk_hit ?_))
    exact fin_plain' (v := .tuple #[]) (results_ok Tryz.results155 res_nil rfl) ⟨⟨_, rfl⟩, σ, rfl, hJ⟩
theorem c_slices_AppendSeq_impl_Hit_impl_Hit__slices_Values_impl_hitHeap_impl_Hit_1 {Ek : List (Int × Int)} {El : Option Addr} {Em : Nat} {En Eo Ep : Nat} {Er Es : List Value} {r : List (Int × Int)} (h : M.slices_AppendSeq_impl_Hit_impl_Hit__slices_Values_impl_hitHeap_impl_Hit_1 Ek = some r) :
    Cal2 Tryz.prog 160 [.slice none 0 0, (.func (.func 155) #[] #[(pt Eo Ep)])] [Ch.bx En Eo Ep [(Sl El Ek Em)] Er Es, Ch.ro 0 (Sl El Ek Em) Ek] (fun n0 v L => ∃ (az1 : Option Addr), ∃ (cz2 : Nat), v = (Sl az1 r cz2) ∧ L = [Ch.own n0 n0 (Sl az1 r cz2) r, Ch.bx En Eo Ep [(Sl El Ek Em)] Er Es]) := by
  obtain ⟨hn, rfl⟩ := coll_some (show M.coll Ek = some r from h)
  refine ⟨⟨_, _, Tryz.func160, rfl, rfl⟩, fun σ0 n0 hn0 H => ?_⟩
  refine callsIn_wide.1 (enterI (n := 13) Tryz.func160 rfl rfl rfl ?_)
  refine wpIn_seq ?_
  refine rgI ?_
  refine stI_ex nofun (ex_box (cs := [.slice none 0 0]) H hn0 rfl rfl) ?_
  rintro _ σ1 ⟨b1, rfl, H, -⟩
  refine stI nofun (v := (.slice none 0 0)) (rv_assign rfl) ?_
  refine endI ?_
  refine q_then (wpIn_seq ?_)
  refine wpIn_seq ?_
  refine rgI ?_
  refine stI nofun (v := (.func (.func 155) #[] #[(pt Eo Ep)])) (rv_move rfl) ?_
  refine endI ?_
  refine q_then (wpIn_block ?_)
  replace H := H.nilOwn (Int × Int) n0 n0
  refine wp_rangeF (gf := 155) (lb := #[(pt Eo Ep)]) (N := r.length) (encs := fun i => [(.agg #[(I (r.getD i (0, 0)).1), (I (r.getD i (0, 0)).2)])].toArray) (by rw [fr_eval]; rfl) (eg_of ⟨_, _, Tryz.func155, rfl, rfl⟩) (fun _ _ => rfl)
    (fun i L => ∃ a' c', L = [Ch.own n0 n0 (Sl a' (r.take i) c') (r.take i), Ch.bx n0 b1 0 [(Sl a' (r.take i) c')] [] [], Ch.bx En Eo Ep [(Sl El r Em)] Er Es, Ch.ro 0 (Sl El r Em) r]) ⟨none, 0, rfl⟩ H ?_ ?_ ?_
  · intro l J hst hJ hy σ h0
    refine it_slices_AppendSeq_impl_Hit_impl_Hit__slices_Values_impl_hitHeap_impl_Hit_1 (J := J) (a := El) (c := Em) hst (fun {i σ} h => ?_) hn (fun i hi σ h => ?_) σ h0
    · obtain ⟨L, R, ⟨a', c', rfl⟩, H⟩ := hJ h
      have H2 := H.drop R
      exact ⟨H2.cells 2 rfl 0 (by simp), (H2.ro 3 rfl).rd⟩
    · have := hy i hi σ h
      simpa [List.getD, hi] using this
  · rintro l D i rc rc' hi σ _ ⟨a', c', rfl⟩ H
    have hgd : r.getD i (0, 0) = r[i] := by simp [List.getD, hi]
    simp only [hgd]
    rw [round_fr]
    refine rgI ?_
    refine stI_ex nofun (ex_alloc (lo := n0) H hn0 ti44 rfl) ?_
    rintro _ σ2 ⟨b5, rfl, H, -⟩
    refine stI_exS nofun (ex_store_box (vs := [(I (r[i]).1), (I (r[i]).2)]) (cs' := [(I (r[i]).1), (I (r[i]).2)]) (k := 0) H (i := 0) rfl ti44 rfl rfl rfl rfl rfl (Nat.le_of_ble_eq_true rfl) (by simp [plain]) rfl) ?_
    rintro σ3 ⟨H, -⟩
    refine endI ?_
    refine q_then ?_
    refine ⟨σ3, _, rfl, H.sel' [1, 2, 0, 3, 4, 5, 6] rfl rfl, ?_⟩
    clear H
    intro σ4 H
    refine wpIn_block ?_
    refine rgI ?_
    have hc1 := H.cells 4 rfl
    refine stI nofun (v := (Sl a' (r.take i) c')) (rv_load1 Tryz.underlying27 rfl rfl (hc1 0 (by simp))) ?_
    have hc5 := H.cells 2 rfl
    refine stI nofun (v := (.agg #[(I (r[i]).1), (I (r[i]).2)])) (rv_load (cs := [(I (r[i]).1), (I (r[i]).2)]) Tryz.underlying44 rfl ti44 rfl rfl hc5) ?_
    refine stI_ex nofun (ex_buildSlice (lo := n0) (el := n0) (xs := ([((r[i]).1, (r[i]).2)] : List (Int × Int))) (ps := [(0, (.agg #[(I (r[i]).1), (I (r[i]).2)]))]) (cs := [(I (r[i]).1), (I (r[i]).2)]) H hn0 Tryz.underlying27 ti44 rfl rfl (by kernel_rfl) (.cons (c := [(I (r[i]).1), (I (r[i]).2)]) ⟨_, _, rfl, rfl, rfl⟩ .nil) rfl) ?_
    rintro _ σ5 ⟨b10, rfl, H, -⟩
    refine stI_ex nofun (ex_append H (i := 4) rfl Tryz.underlying27 Tryz.underlying27 ti44 rfl rfl (by decide) (H.own 0 rfl).rd (take_gapp hi hn) hn0 rfl rfl) ?_
    rintro _ σ6 ⟨a2, c2, rfl, H, -⟩
    refine stI_exS nofun (ex_store_box (vs := [(Sl a2 (r.take (i + 1)) c2)]) (cs' := [(Sl a2 (r.take (i + 1)) c2)]) (k := 0) H (i := 5) rfl ti27 rfl rfl rfl rfl rfl (Nat.le_of_ble_eq_true rfl) (by simp [plain, Sl]) rfl) ?_
    rintro σ7 ⟨H, -⟩
    refine endI ?_
    refine q_blk ?_
    exact ⟨rfl, σ7, _, rfl, ⟨a2, c2, rfl⟩, H.sel' [3, 4, 1, 0, 6, 7] rfl rfl⟩
  · rintro D σ _ ⟨a', c', rfl⟩ H
    rw [List.take_length] at H
    refine q_blk (q_then (wpIn_seq ?_))
    refine rgD (ds := [{ target := .collected D, args := #[] }]) ?_
    have hc1 := H.cells 2 rfl
    refine stD nofun (v := (Sl a' r c')) (rv_load1 Tryz.underlying27 rfl rfl (hc1 0 (by simp))) ?_
    refine stD nofun (v := (Sl a' r c')) (rv_assign rfl) ?_
    refine endD ?_
    refine q_then (wpIn_ret ?_)
    exact fin_mark (v := Sl a' r c') H (results_ok Tryz.results160 (res_tmp (v := Sl a' r c') rfl res_nil) rfl) ⟨_, _, _, rfl, rfl, ⟨a', c', rfl, rfl⟩, (H.putDf _).sel' [0, 2] rfl rfl⟩

theorem c_slices_Collect_impl_Hit__slices_Values_impl_hitHeap_impl_Hit_1 {Et : List (Int × Int)} {Eu : Option Addr} {Ev : Nat} {Ew Ey Ez : Nat} {Fa Fb : List Value} {r : (List (Int × Int))} (h : M.slices_Collect_impl_Hit__slices_Values_impl_hitHeap_impl_Hit_1 Et = some r) :
    Cal2 Tryz.prog 153 [(.func (.func 155) #[] #[(pt Ey Ez)])] [Ch.bx Ew Ey Ez [(Sl Eu Et Ev)] Fa Fb, Ch.ro 0 (Sl Eu Et Ev) Et] (fun n0 v L => ∃ (az1 : Option Addr), ∃ (cz2 : Nat), v = (Sl az1 r cz2) ∧ L = [Ch.own n0 n0 (Sl az1 r cz2) r, Ch.bx Ew Ey Ez [(Sl Eu Et Ev)] Fa Fb]) := by
 refine cal2 (n := 5) Tryz.func153 rfl rfl rfl rfl ?_
 intro S0 σ0 n0 hn0 H
 unfold M.slices_Collect_impl_Hit__slices_Values_impl_hitHeap_impl_Hit_1 at h
 refine c_seq (rg (sa (.slice none 0 0) rfl (w_end (q_then (c_seq (rg (sm (.func (.func 155) #[] #[(pt Ey Ez)]) rfl ?_)))))))
 revert h; refine br fun r1 hx2 h => ?_
 have hc3 := c_slices_AppendSeq_impl_Hit_impl_Hit__slices_Values_impl_hitHeap_impl_Hit_1 (En := Ew) (Eo := Ey) (Ep := Ez) (Er := Fa) (Es := Fb) (El := Eu) (Em := Ev) hx2
 refine st_call (cx_call hc3 (ent_f hc3.fn rfl) hn0 (H.sel' [0, 1, 1] rfl rfl : Hp S0 σ0 _ ([_, _] ++ _))) wn ?_
 rintro _ σ6 ⟨_, ⟨a4, c5, rfl, rfl⟩, H, -⟩
 replace H : Hp _ _ _ [_, _, _] := H
 refine sa (Sl a4 r1 c5) rfl (w_end (q_then (c_ret ?_)))
 obtain rfl := sj h
 exact fin_ret (v := (Sl a4 r1 c5)) (results_ok Tryz.results153 (res_tmp (v := (Sl a4 r1 c5)) rfl res_nil) rfl) ⟨a4, c5, rfl, rfl⟩ (H.sel' [0, 1] rfl rfl)

def sort154_ren : Go.Shelf.Ren := ⟨fun | 6 => 154 | 15 => 162 | 14 => 161 | 28 => 171 | 29 => 172 | 20 => 163 | 21 => 164 | 22 => 165 | 23 => 166 | 24 => 167 | 25 => 168 | 26 => 169 | 27 => 170 | 46 => 173 | 47 => 174 | 48 => 175 | 49 => 176 | 50 => 177 | 57 => 178 | n => n, fun | 22 => 27 | 24 => 44 | 25 => 69 | 3 => 3 | 39 => 138 | 0 => 0 | 53 => 154 | 55 => 156 | 4 => 4 | 46 => 163 | 45 => 162 | 50 => 139 | 5 => 5 | 9 => 9 | 66 => 168 | 70 => 172 | 76 => 174 | 77 => 175 | n => n, fun | n => n⟩
theorem sort154 : Go.Proofs.SlLaysF0.n6 Tryz.prog sort154_ren := {
  mixed := by kernel_rfl
  f6 := ⟨Tryz.f154.name, by decide, Tryz.func154.trans (congrArg some (by kernel_rfl))⟩
  f14 := ⟨Tryz.f161.name, by decide, Tryz.func161.trans (congrArg some (by kernel_rfl))⟩
  f15 := Tryz.func162.trans (congrArg some (by kernel_rfl))
  f20 := ⟨Tryz.f163.name, by decide, Tryz.func163.trans (congrArg some (by kernel_rfl))⟩
  f21 := ⟨Tryz.f164.name, by decide, Tryz.func164.trans (congrArg some (by kernel_rfl))⟩
  f22 := ⟨Tryz.f165.name, by decide, Tryz.func165.trans (congrArg some (by kernel_rfl))⟩
  f23 := ⟨Tryz.f166.name, by decide, Tryz.func166.trans (congrArg some (by kernel_rfl))⟩
  f24 := ⟨Tryz.f167.name, by decide, Tryz.func167.trans (congrArg some (by kernel_rfl))⟩
  f25 := ⟨Tryz.f168.name, by decide, Tryz.func168.trans (congrArg some (by kernel_rfl))⟩
  f26 := ⟨Tryz.f169.name, by decide, Tryz.func169.trans (congrArg some (by kernel_rfl))⟩
  f27 := ⟨Tryz.f170.name, by decide, Tryz.func170.trans (congrArg some (by kernel_rfl))⟩
  f28 := Tryz.func171.trans (congrArg some (by kernel_rfl))
  f29 := Tryz.func172.trans (congrArg some (by kernel_rfl))
  f46 := ⟨Tryz.f173.name, by decide, Tryz.func173.trans (congrArg some (by kernel_rfl))⟩
  f47 := Tryz.func174.trans (congrArg some (by kernel_rfl))
  f48 := Tryz.func175.trans (congrArg some (by kernel_rfl))
  f49 := ⟨Tryz.f176.name, by decide, Tryz.func176.trans (congrArg some (by kernel_rfl))⟩
  f50 := ⟨Tryz.f177.name, by decide, Tryz.func177.trans (congrArg some (by kernel_rfl))⟩
  f57 := ⟨Tryz.f178.name, by decide, Tryz.func178.trans (congrArg some (by kernel_rfl))⟩
  t0 := Tryz.underlying0
  a0 := Tryz.isAgg0
  z0 := Tryz.sizeOf0
  v0 := Tryz.zeroValue0
  t3 := Tryz.underlying3
  a3 := Tryz.isAgg3
  z3 := Tryz.sizeOf3
  v3 := Tryz.zeroValue3
  t4 := Tryz.underlying4
  a4 := Tryz.isAgg4
  z4 := Tryz.sizeOf4
  v4 := Tryz.zeroValue4
  t5 := Tryz.underlying5
  a5 := Tryz.isAgg5
  z5 := Tryz.sizeOf5
  v5 := Tryz.zeroValue5
  t9 := Tryz.underlying9
  a9 := Tryz.isAgg9
  z9 := Tryz.sizeOf9
  v9 := Tryz.zeroValue9
  t22 := Tryz.underlying27
  a22 := Tryz.isAgg27
  z22 := Tryz.sizeOf27
  v22 := Tryz.zeroValue27
  t25 := Tryz.underlying69
  a25 := Tryz.isAgg69
  z25 := Tryz.sizeOf69
  v25 := Tryz.zeroValue69
  t39 := Tryz.underlying138
  a39 := Tryz.isAgg138
  z39 := Tryz.sizeOf138
  v39 := Tryz.zeroValue138
  t45 := Tryz.underlying162
  a45 := Tryz.isAgg162
  z45 := Tryz.sizeOf162
  v45 := Tryz.zeroValue162
  t46 := Tryz.underlying163
  a46 := Tryz.isAgg163
  z46 := Tryz.sizeOf163
  v46 := Tryz.zeroValue163
  t50 := Tryz.underlying139
  a50 := Tryz.isAgg139
  z50 := Tryz.sizeOf139
  v50 := Tryz.zeroValue139
  t53 := Tryz.underlying154
  a53 := Tryz.isAgg154
  z53 := Tryz.sizeOf154
  v53 := Tryz.zeroValue154
  t55 := Tryz.underlying156
  a55 := Tryz.isAgg156
  z55 := Tryz.sizeOf156
  v55 := Tryz.zeroValue156
  t66 := Tryz.underlying168
  a66 := Tryz.isAgg168
  z66 := Tryz.sizeOf168
  v66 := Tryz.zeroValue168
  t70 := Tryz.underlying172
  a70 := Tryz.isAgg172
  z70 := Tryz.sizeOf172
  v70 := Tryz.zeroValue172
  t76 := Tryz.underlying174
  a76 := Tryz.isAgg174
  z76 := Tryz.sizeOf174
  v76 := Tryz.zeroValue174
  t77 := Tryz.underlying175
  a77 := Tryz.isAgg175
  z77 := Tryz.sizeOf175
  v77 := Tryz.zeroValue175 }

theorem c_slices_SortFunc_impl_Hit_impl_Hit__impl_compareHits {Aj : List (Int × Int)} {Fc : Option Addr} {Fd : Nat} {r : List (Int × Int)} (h : M.slices_SortFunc_impl_Hit_impl_Hit__impl_compareHits Aj = some r) :
    Cal2 Tryz.prog 154 [(Sl Fc Aj Fd), (.func (.func 48) #[] #[])] [Ch.own 0 0 (Sl Fc Aj Fd) Aj] (fun n0 v L => v = (.tuple #[]) ∧ L = [Ch.own 0 0 (Sl Fc r Fd) r] ∧ r.length = Aj.length) := by
 obtain ⟨hn, hs, hL, rfl⟩ := sortD_some h
 have hE : ∀ σ σ' : St, Ext σ σ' → (True) → (True) := fun _ _ _ hp => hp
 have hB : ∀ σ : St, allAs σ [] → apart [] → ∃ σp, Pb (cov []) σ σp ∧ True := fun σ _ _ => ⟨σ, ⟨rfl, fun _ _ => rfl, fun _ => Nat.le_refl _⟩, trivial⟩
 have hC : ∀ σ : St, (True) → ∀ x ∈ Aj, ∀ y ∈ Aj, ∀ cx cy, Rp.rp 0 σ cx x → Rp.rp 0 σ cy y → Calls Tryz.prog 48 ([Value.agg cx.toArray, Value.agg cy.toArray] ++ []).toArray σ.w fun e w' => e = .returned (I ((M.impl_compareHits (x.1, x.2) (y.1, y.2)).getD 0)) ∧ ∃ q os, w' = Go.Sort.grow (σ.w.drewN q) os := by
     intro σ hp x hx y hy cx cy rx ry
     obtain ⟨r, hr⟩ := hs x hx y hy
     obtain ⟨_, _, rfl, rfl, rfl⟩ := rx
     obtain ⟨_, _, rfl, rfl, rfl⟩ := ry
     have hc := c_impl_compareHits  hr
     refine (hc.runs σ 0 (Nat.zero_le _) (Hp.begin trivial trivial)).mono ?_
     rintro e w' ⟨v, σ', L', rfl, rfl, ⟨rfl, -⟩, H⟩
     exact ⟨by rw [hr]; rfl, (H.md.mono fun i => fun h => h).grown⟩
 refine (sort_cal2 (α := (Int × Int)) sort154 Tryz.isAgg44 Tryz.sizeOf44 (xs := Aj) (a := Fc) (c := Fd) (g := 48) (cb := []) (B := []) (fun x y => (M.impl_compareHits (x.1, x.2) (y.1, y.2)).getD 0) hL hn ⟨_, _, Tryz.func48, rfl, rfl⟩ _ hE hB hC).conv ?_
 rintro m v L ⟨rfl, rfl⟩
 exact ⟨_, ⟨rfl, rfl, sortL_len⟩, fun H => H.sel' [0] rfl rfl⟩

theorem c_slices_SortedFunc_impl_Hit__slices_Values_impl_hitHeap_impl_Hit_1__impl_compareHits {Et : List (Int × Int)} {Eu : Option Addr} {Ev : Nat} {Ew Ey Ez : Nat} {Fa Fb : List Value} {r : (List (Int × Int))} (h : M.slices_SortedFunc_impl_Hit__slices_Values_impl_hitHeap_impl_Hit_1__impl_compareHits Et = some r) :
    Cal2 Tryz.prog 140 [(.func (.func 155) #[] #[(pt Ey Ez)]), (.func (.func 48) #[] #[])] [Ch.bx Ew Ey Ez [(Sl Eu Et Ev)] Fa Fb, Ch.ro 0 (Sl Eu Et Ev) Et] (fun n0 v L => ∃ (az1 : Option Addr), ∃ (cz2 : Nat), v = (Sl az1 r cz2) ∧ L = [Ch.own 0 n0 (Sl az1 r cz2) r, Ch.bx Ew Ey Ez [(Sl Eu Et Ev)] Fa Fb]) := by
 refine cal2 (n := 12) Tryz.func140 rfl rfl rfl rfl ?_
 intro S0 σ0 n0 hn0 H
 unfold M.slices_SortedFunc_impl_Hit__slices_Values_impl_hitHeap_impl_Hit_1__impl_compareHits at h
 refine c_seq (rg (sa (.slice none 0 0) rfl (w_end (q_then (c_seq (rg (sm (.func (.func 155) #[] #[(pt Ey Ez)]) rfl ?_)))))))
 revert h; refine br fun r1 hx2 h => ?_
 have hc3 := c_slices_Collect_impl_Hit__slices_Values_impl_hitHeap_impl_Hit_1 (Ew := Ew) (Ey := Ey) (Ez := Ez) (Fa := Fa) (Fb := Fb) (Eu := Eu) (Ev := Ev) hx2
 refine st_call (cx_call hc3 (ent_f hc3.fn rfl) hn0 (H.sel' [0, 1, 1] rfl rfl : Hp S0 σ0 _ ([_, _] ++ _))) wn ?_
 rintro _ σ6 ⟨_, ⟨a4, c5, rfl, rfl⟩, H, -⟩
 replace H : Hp _ _ _ [_, _, _] := H
 refine sa (Sl a4 r1 c5) rfl (w_end (q_then (c_seq (rg (sm (Sl a4 r1 c5) rfl (sm (.func (.func 48) #[] #[]) rfl ?_))))))
 replace H := H.ownLow 0 0 0 rfl (Nat.zero_le _) (Nat.zero_le _)
 revert h; refine br fun r7 hx8 h => ?_
 have hc9 := c_slices_SortFunc_impl_Hit_impl_Hit__impl_compareHits (Fc := a4) (Fd := c5) hx8
 refine st_call (cx_call hc9 (ent_f hc9.fn rfl) hn0 (H.sel' [0, 1, 2] rfl rfl : Hp S0 σ0 _ ([_] ++ _))) wn ?_
 rintro _ σ11 ⟨_, ⟨rfl, rfl, hn10⟩, H, -⟩
 replace H : Hp _ _ _ [_, _, _] := H
 have hsl : (Sl a4 r1 c5) = (Sl a4 r7 c5) := sl_len hn10.symm
 try rw [hsl]
 try rw [hsl] at H
 clear hsl
 refine w_end (q_then (c_seq (rg (sm (Sl a4 r7 c5) rfl (sa (Sl a4 r7 c5) rfl (w_end (q_then (c_ret ?_))))))))
 replace H := H.ownSc 0 0 n0 rfl (Nat.le_refl _)
 obtain rfl := sj h
 exact fin_ret (v := (Sl a4 r7 c5)) (results_ok Tryz.results140 (res_tmp (v := (Sl a4 r7 c5)) rfl res_nil) rfl) ⟨a4, c5, rfl, rfl⟩ (H.sel' [0, 1] rfl rfl)

theorem c_impl_nearestHits_inOrder {Cb : Int × (List (Int × Int))} {Ed : Option Addr} {Ee : Nat} {Ef Eg Eh : Nat} {Ei Ej : List Value} {r : (List (Int × Int))} (h : M.impl_nearestHits_inOrder Cb = some r) :
    Cal2 Tryz.prog 113 [(pt Eg Eh)] [Ch.bx Ef Eg Eh [(I Cb.1), (Sl Ed Cb.2 Ee)] Ei Ej, Ch.ro 0 (Sl Ed Cb.2 Ee) Cb.2] (fun n0 v L => ∃ (az1 : Option Addr), ∃ (cz2 : Nat), v = (Sl az1 r cz2) ∧ L = [Ch.own 0 n0 (Sl az1 r cz2) r, Ch.bx Ef Eg Eh [(I Cb.1), (Sl Ed Cb.2 Ee)] Ei Ej]) := by
 refine cal2 (n := 9) Tryz.func113 rfl rfl rfl rfl ?_
 intro S0 σ0 n0 hn0 H
 unfold M.impl_nearestHits_inOrder at h
 refine c_seq (rg (sa (.slice none 0 0) rfl (w_end (q_then (c_seq (rg (sm (pt Eg Eh) rfl (st (v := (pt Eg Eh)) (rv_nilCheck rfl) (st (v := (pt Eg (Eh + 1))) (rv_fieldAddr (off := 1) (ft := 114) Tryz.underlying116 rfl ti114 rfl rfl) ?_)))))))))
 have hc1 := H.cell (u := (Sl Ed Cb.2 Ee)) (o' := (Eh + 1)) 0 1 rfl rfl rfl
 refine st (v := (Sl Ed Cb.2 Ee)) (rv_load1 Tryz.underlying114 rfl rfl hc1) ?_
 revert h; refine br fun r2 hx3 h => ?_
 have hc4 := c_slices_Values_impl_hitHeap_impl_Hit (Az := Ed) (Ba := Ee) hx3
 refine st_call (cx_call hc4 (ent_f hc4.fn rfl) hn0 (H.sel' [1, 0, 1] rfl rfl : Hp S0 σ0 _ ([_] ++ _))) wn ?_
 rintro _ σ6 ⟨_, ⟨b5, rfl, rfl⟩, H, -⟩
 replace H : Hp _ _ _ [_, _, _] := H
 revert h; refine br fun r7 hx8 h => ?_
 have hc9 := c_slices_SortedFunc_impl_Hit__slices_Values_impl_hitHeap_impl_Hit_1__impl_compareHits (Ew := n0) (Ey := b5) (Ez := 0) (Fa := []) (Fb := []) (Eu := Ed) (Ev := Ee) hx8
 refine st_call (cx_call hc9 (ent_f hc9.fn rfl) hn0 (H.sel' [0, 2, 1, 2] rfl rfl : Hp S0 σ0 _ ([_, _] ++ _))) wn ?_
 rintro _ σ12 ⟨_, ⟨a10, c11, rfl, rfl⟩, H, -⟩
 replace H : Hp _ _ _ [_, _, _, _] := H
 refine sa (Sl a10 r7 c11) rfl (w_end (q_then (c_ret ?_)))
 obtain rfl := sj h
 exact fin_ret (v := (Sl a10 r7 c11)) (results_ok Tryz.results113 (res_tmp (v := (Sl a10 r7 c11)) rfl res_nil) rfl) ⟨a10, c11, rfl, rfl⟩ (H.sel' [0, 2] rfl rfl)

theorem c_slices_Min_int_int {Aj : List Int} {Fc : Option Addr} {Fd : Nat} {r : Int} (h : M.slices_Min_int_int Aj = some r) :
    Cal2 Tryz.prog 121 [(Sl Fc Aj Fd)] [Ch.ro 0 (Sl Fc Aj Fd) Aj] (fun n0 v L => v = (I r) ∧ L = []) := by
 refine cal2 (n := 25) Tryz.func121 rfl rfl rfl rfl ?_
 intro S0 σ0 n0 hn0 H
 unfold M.slices_Min_int_int at h
 refine c_seq (rg (sa (I 0) rfl (w_end (q_then (c_seq (c_seq (rg (sm (Sl Fc Aj Fd) rfl (st (v := (I (Aj.length : Int))) (rv_len Tryz.underlying24 rfl) (st (v := (B (decide ((Aj.length : Int) < 1)))) (rv_lss (a := (Aj.length : Int)) (b := 1) rfl rfl) (w_end ?_)))))))))))
 refine q_then ?_
 refine cd_cond (decide ((Aj.length : Int) < 1)) rfl (fun hb1 => ?_) (fun hb1 => ?_)
 ·replace h := bif_t hb1 h
  refine rg (st (v := (.iface 9 (.string ⟨#[115, 108, 105, 99, 101, 115, 46, 77, 105, 110, 58, 32, 101, 109, 112, 116, 121, 32, 108, 105, 115, 116]⟩))) (rv_makeInterface Tryz.underlying9 rfl rfl) ?_)
  cases h
 ·replace h := bif_f hb1 h
  refine c_skip (q_then (c_seq (rg (sm (Sl Fc Aj Fd) rfl ?_))))
  revert h; refine br fun x2 hx3 h => ?_
  obtain ⟨b5, o6, hi4, -⟩ := (H.ro 0 rfl).ix hx3
  refine st (v := (pt b5 o6)) (rv_ix Tryz.underlying24 ti3 rfl rfl hi4) ?_
  have hc7 := ((H.ro 0 rfl).at hx3 hi4).int
  refine st (v := (I x2)) (rv_load1 Tryz.underlying3 rfl rfl hc7) (sa (I x2) rfl (w_end (q_then (c_seq (c_seq (rg (sa (I 1) rfl (w_end (q_then ?_)))))))))
  obtain ⟨o8, hj, h'⟩ := bind_some h
  clear h
  refine c_cut (fun e a w => e = .normal ∧ ∃ (ρ : Nat → Value) (σ : St), a = fr 25 (updL ρ [(3, (I o8))]) ∧ w = σ.w ∧ Hp S0 σ0 σ []) ?_ ?_
  ·clear h'
   rename _ = some o8 => h
   refine c_blk (wp_loopM _ h (fun s9 a w => ∃ (ρ : Nat → Value) (σ : St), a = fr 25 (updL ρ [(0, (Sl Fc Aj Fd)), (3, (I s9.1)), (4, (I s9.2))]) ∧ w = σ.w ∧ Hp S0 σ0 σ [Ch.ro 0 (Sl Fc Aj Fd) Aj]) ⟨_, σ0, fr_join ⟨rfl, rfl, rfl, trivial⟩, rfl, H.sel' [0] rfl rfl⟩ ?_)
   clear h H
   rintro s9 a w o ⟨ρ, σ10, rfl, rfl, H⟩ h hres
   refine c_seq (c_seq (rg (sm (I s9.2) rfl (sm (Sl Fc Aj Fd) rfl (st (v := (I (Aj.length : Int))) (rv_len Tryz.underlying24 rfl) (st (v := (B (decide (s9.2 < (Aj.length : Int))))) (rv_lss (a := s9.2) (b := (Aj.length : Int)) rfl rfl) (w_end (q_then ?_))))))))
   refine cd_cond (decide (s9.2 < (Aj.length : Int))) rfl (fun hb11 => ?_) (fun hb11 => ?_)
   ·replace h := bif_t hb11 h
    refine c_skip (q_then (c_seq (c_blk (rg (sm (I s9.1) rfl (sm (Sl Fc Aj Fd) rfl (sm (I s9.2) rfl ?_)))))))
    revert h; refine br fun x12 hx13 h => ?_
    obtain ⟨b15, o16, hi14, -⟩ := (H.ro 0 rfl).ix hx13
    refine st (v := (pt b15 o16)) (rv_ix Tryz.underlying24 ti3 rfl rfl hi14) ?_
    have hc17 := ((H.ro 0 rfl).at hx13 hi14).int
    refine st (v := (I x12)) (rv_load1 Tryz.underlying3 rfl rfl hc17) (st (v := (I (min s9.1 x12))) (rv_min rfl rfl) (sa (I (min s9.1 x12)) rfl (w_end (q_blk (q_then (rg (sm (I s9.2) rfl (st (v := (I (w64 (s9.2 + 1)))) (rv_add (a := s9.2) (b := 1) rfl rfl) (sa (I (w64 (s9.2 + 1))) rfl (w_end (q_then ?_)))))))))))
    obtain rfl := sj h
    exact ⟨_, rfl, _, σ10, fr_join ⟨rfl, rfl, rfl, trivial⟩, rfl, H.sel' [0] rfl rfl⟩
   ·replace h := bif_f hb11 h
    refine c_exit (q_then_x (q_then_x (q_blk_hit ?_)))
    obtain rfl := sj h
    obtain rfl := hres _ rfl
    exact ⟨rfl, _, σ10, fr_join ⟨rfl, trivial⟩, rfl, H.sel' [] rfl rfl⟩
  ·clear hj
   have h := h'
   clear h' H
   rintro e a w ⟨rfl, ρ, σ18, rfl, rfl, H⟩
   refine q_then (c_seq (rg (sm (I o8) rfl (sa (I o8) rfl (w_end (q_then (c_ret ?_)))))))
   obtain rfl := sj h
   exact fin_ret (v := (I o8)) (results_ok Tryz.results121 (res_tmp (v := (I o8)) rfl res_nil) rfl) ⟨rfl, rfl⟩ (H.sel' [] rfl rfl)

theorem c_slices_Index_int_int {Ax : List Int} {Fe : Int} {Az : Option Addr} {Ba : Nat} {r : Int} (h : M.slices_Index_int_int Ax Fe = some r) :
    Cal2 Tryz.prog 120 [(Sl Az Ax Ba), (I Fe)] [Ch.ro 0 (Sl Az Ax Ba) Ax] (fun n0 v L => v = (I r) ∧ L = []) := by
 refine cal2 (n := 19) Tryz.func120 rfl rfl rfl rfl ?_
 intro S0 σ0 n0 hn0 H
 unfold M.slices_Index_int_int at h
 refine c_seq (rg (sa (I 0) rfl (w_end (q_then (c_seq (c_seq (rg (sm (Sl Az Ax Ba) rfl (st (v := (I (Ax.length : Int))) (rv_len Tryz.underlying24 rfl) (sm (I 0) rfl (w_end ?_)))))))))))
 refine q_then ?_
 obtain ⟨o1, hj, h'⟩ := bind_some h
 clear h
 refine c_cut (fun e a w => (∃ t, o1 = (.inl t) ∧ e = .normal ∧ ∃ (ρ : Nat → Value) (σ : St), a = fr 19 (updL ρ []) ∧ w = σ.w ∧ Hp S0 σ0 σ []) ∨ (∃ t, o1 = (.inr t) ∧ e = .ret ∧ ∃ (ρ : Nat → Value) (σ : St), a = fr 19 (updL ρ [(4, (I t))]) ∧ w = σ.w ∧ Hp S0 σ0 σ [])) ?_ ?_
 ·clear h'
  rename _ = some o1 => h
  refine c_blk (wp_loopM _ h (fun s2 a w => ∃ (ρ : Nat → Value) (σ : St), a = fr 19 (updL ρ [(0, (Sl Az Ax Ba)), (1, (I Fe)), (7, (I (Ax.length : Int))), (8, (I s2))]) ∧ w = σ.w ∧ Hp S0 σ0 σ [Ch.ro 0 (Sl Az Ax Ba) Ax]) ⟨_, σ0, fr_join ⟨rfl, rfl, rfl, rfl, trivial⟩, rfl, H.sel' [0] rfl rfl⟩ ?_)
  clear h H
  rintro s2 a w o ⟨ρ, σ3, rfl, rfl, H⟩ h hres
  refine c_seq (rg (st (v := (B (decide (s2 < (Ax.length : Int))))) (rv_lss (a := s2) (b := (Ax.length : Int)) rfl rfl) (w_end (q_then (c_seq ?_)))))
  refine cd_cond (decide (s2 < (Ax.length : Int))) rfl (fun hb4 => ?_) (fun hb4 => ?_)
  ·replace h := bif_t hb4 h
   refine c_skip (q_then (c_seq (c_blk (c_seq (rg (sm (I s2) rfl (sa (I s2) rfl (w_end (q_then (c_seq (rg ?_)))))))))))
   refine sm (I Fe) rfl (sm (Sl Az Ax Ba) rfl (sm (I s2) rfl ?_))
   revert h; refine br fun x5 hx6 h => ?_
   obtain ⟨b8, o9, hi7, -⟩ := (H.ro 0 rfl).ix hx6
   refine st (v := (pt b8 o9)) (rv_ix Tryz.underlying24 ti3 rfl rfl hi7) ?_
   have hc10 := ((H.ro 0 rfl).at hx6 hi7).int
   refine st (v := (I x5)) (rv_load1 Tryz.underlying3 rfl rfl hc10) (st (v := (B (Fe == x5))) (rv_eql (a := Fe) (b := x5) rfl rfl) (w_end (q_then ?_)))
   refine cd_cond (Fe == x5) rfl (fun hb11 => ?_) (fun hb11 => ?_)
   ·replace h := bif_t hb11 h
    refine c_seq (rg (sm (I s2) rfl (sa (I s2) rfl (w_end (q_then (c_ret (q_blk_r (q_then_r (q_then_r (q_blk_r ?_))))))))))
    obtain rfl := sj h
    obtain rfl := hres _ rfl
    exact .inr (⟨_, rfl, rfl, _, σ3, fr_join ⟨rfl, trivial⟩, rfl, H.sel' [] rfl rfl⟩)
   ·replace h := bif_f hb11 h
    refine c_skip (q_blk (q_then (rg (st (v := (I (w64 (s2 + 1)))) (rv_add (a := s2) (b := 1) rfl rfl) (sm (I (w64 (s2 + 1))) rfl (w_end (q_then ?_)))))))
    obtain rfl := sj h
    exact ⟨_, rfl, _, σ3, fr_join ⟨rfl, rfl, rfl, rfl, trivial⟩, rfl, H.sel' [0] rfl rfl⟩
  ·replace h := bif_f hb4 h
   refine c_exit (q_then_x (q_then_x (q_blk_hit ?_)))
   obtain rfl := sj h
   obtain rfl := hres _ rfl
   exact .inl ⟨_, rfl, rfl, _, σ3, fr_join trivial, rfl, H.sel' [] rfl rfl⟩
 ·clear hj
  have h := h'
  clear h' H
  rintro e a w (⟨t12, rfl, rfl, ρ, σ13, rfl, rfl, H⟩ | ⟨t14, rfl, rfl, ρ, σ15, rfl, rfl, H⟩)
  ·replace h := selim_l h
   refine q_then (c_seq (rg (sa (I (-1)) rfl (w_end (q_then (c_ret ?_))))))
   obtain rfl := sj h
   exact fin_ret (v := (I (-1))) (results_ok Tryz.results120 (res_tmp (v := (I (-1))) rfl res_nil) rfl) ⟨rfl, rfl⟩ (H.sel' [] rfl rfl)
  ·replace h := selim_r h
   refine q_then_r ?_
   obtain rfl := sj h
   exact fin_ret (v := (I t14)) (results_ok Tryz.results120 (res_tmp (v := (I t14)) rfl res_nil) rfl) ⟨rfl, rfl⟩ (H.sel' [] rfl rfl)

theorem c_impl_sideTable_nearest {Ff : List Int} (Fg : Ff.length = 4) {r : Int} (h : M.impl_sideTable_nearest Ff = some r) :
    Cal2 Tryz.prog 75 [(.agg (List.map I Ff).toArray)] [] (fun n0 v L => v = (I r) ∧ L = []) := by
 refine cal2 (n := 7) Tryz.func75 rfl rfl rfl rfl ?_
 intro S0 σ0 n0 hn0 H
 unfold M.impl_sideTable_nearest at h
 refine c_seq (rg (st_ex (ex_box (cs := (List.map I Ff)) H hn0 rfl rfl) wn ?_))
 rintro _ σ2 ⟨b1, rfl, H, -⟩
 refine sa (I 0) rfl (w_end (q_then (c_seq ?_)))
 replace H := Hp.arr (el := n0) H (i := 0) rfl Fg
 obtain ⟨σ3, hw4, H, -⟩ := H.pub 0 rfl (Nat.le_refl _)
 rw [← hw4]; clear hw4
 replace H := H.roLow 0 0 rfl (Nat.zero_le _)
 revert h; refine br fun r5 hx6 h => ?_
 have hc7 := c_slices_Min_int_int (Fc := (some ⟨b1, 0, none⟩)) (Fd := 4) hx6
 have Hs := H
 refine rg2 (σ := σ3) (Nm := Unit) 3 [2] [[false], [true]] [[(0, 0), (1, 1)], [(0, 0)], [(0, 1)]] 1 [fun _ => fun σm => Hp S0 σ0 σm [Ch.ro 0 (Sl (some ⟨b1, 0, none⟩) Ff 4) Ff, Ch.ro n0 (Sl (some ⟨b1, 0, none⟩) Ff 4) Ff] ∧ Md (cov []) σ3 σm, fun _ => fun σm => Hp S0 σ0 σm [Ch.ro 0 (Sl (some ⟨b1, 0, none⟩) Ff 4) Ff, Ch.ro n0 (Sl (some ⟨b1, 0, none⟩) Ff 4) Ff] ∧ Md (cov []) σ3 σm] [fun _ => (Sl (some ⟨b1, 0, none⟩) Ff 4), fun _ => (Sl (some ⟨b1, 0, none⟩) Ff 4), fun _ => (I r5)] () (by kernel_rfl) (by kernel_rfl) ?_ ?_ ?_
 ·intro σm m0
  exact ⟨H.grow (m0.mono fun _ h => h.elim), m0⟩
 ·refine ac rfl (by
    intro k _nm ρ σm hJ hoff hdep
    have e1 := look_off (N := 7) (hoff 1 rfl) rfl
    exact dp_v (v := (Sl (some ⟨b1, 0, none⟩) Ff 4)) wn (rv_slice_arrL Tryz.underlying87 ti3 (by decide) e1 Fg) rfl hJ) ?_
  refine ac rfl (by
    intro k _nm ρ σm hJ hoff hdep
    have e1 := look_off (N := 7) (hoff 1 rfl) rfl
    exact dp_v (v := (Sl (some ⟨b1, 0, none⟩) Ff 4)) wn (rv_slice_arrL Tryz.underlying87 ti3 (by decide) e1 Fg) rfl hJ) ?_
  refine all_cons (by
    refine ⟨?_, ?_⟩
    ·intro _nm ρ σm hJ hoff hdep
     have e4 : look 7 ρ 4 = (Sl (some ⟨b1, 0, none⟩) Ff 4) := hdep 1 rfl rfl 4 rfl
     obtain ⟨H, m⟩ := id hJ
     refine dp_cx wn (cx_call hc7 (ent_f hc7.fn (by show [look 7 ρ 4] = _; rw [e4])) hn0 (H.sel' [0, 0, 1] rfl rfl : Hp S0 σ0 _ ([_] ++ _))) ?_
     rintro _ σq ⟨_, ⟨rfl, rfl⟩, H2, m2⟩
     exact ⟨_, (), rfl, rfl, ⟨H2.sel' [0, 1] rfl rfl, m.comp0 (m2.mono (fun i h => by simp [cov, Ch.ro] at h))⟩, stab [0, 1] (by kernel_rfl) ⟨rfl, rfl, trivial⟩⟩
    trivial) ?_
  exact all_nil
 ·intro _nm ρ σ8 hJ hoff hrel
  have e3 := hrel 0 rfl 3 rfl
  have e5 := hrel 2 rfl 5 rfl
  obtain ⟨H, -⟩ := (show Hp S0 σ0 σ8 [Ch.ro 0 (Sl (some ⟨b1, 0, none⟩) Ff 4) Ff, Ch.ro n0 (Sl (some ⟨b1, 0, none⟩) Ff 4) Ff] ∧ Md (cov []) σ3 σ8 from hJ)
  clear hJ Hs
  rw [fr_lookL (L := [(3, (Sl (some ⟨b1, 0, none⟩) Ff 4)), (5, (I r5))]) ⟨e3, e5, trivial⟩]
  clear hoff hrel e3 e5
  replace H := H.roLow 1 0 rfl (Nat.zero_le _)
  revert h; refine br fun r9 hx10 h => ?_
  have hc11 := c_slices_Index_int_int (Az := (some ⟨b1, 0, none⟩)) (Ba := 4) hx10
  refine st_call (cx_call hc11 (ent_f hc11.fn rfl) hn0 (H.sel' [0, 0, 1, 2] rfl rfl : Hp S0 σ0 _ ([_] ++ _))) wn ?_
  rintro _ σ12 ⟨_, ⟨rfl, rfl⟩, H, -⟩
  replace H : Hp _ _ _ [_, _, _] := H
  refine sa (I r9) rfl (w_end (q_then (c_ret ?_)))
  obtain rfl := sj h
  exact fin_ret (v := (I r9)) (results_ok Tryz.results75 (res_tmp (v := (I r9)) rfl res_nil) rfl) ⟨rfl, rfl⟩ (H.sel' [] rfl rfl)

theorem c_impl_EncodeVector {Cu : (List (List Int)) × (List (List Int))} {Dd : List Int} {Cv : Option Addr} {Cw : Nat} {Cy : Option Addr} {Cz : Nat} {De : Option Addr} {Dg : Nat} {r : Int} (h : M.impl_EncodeVector Cu Dd = some r) :
    Cal2 Tryz.prog 27 [(.agg #[(Sl Cv Cu.1 Cw), (Sl Cy Cu.2 Cz)]), (Sl De Dd Dg)] [Ch.ro 0 (Sl Cv Cu.1 Cw) Cu.1, Ch.ro 0 (Sl Cy Cu.2 Cz) Cu.2, Ch.ro 0 (Sl De Dd Dg) Dd] (fun n0 v L => v = (I r) ∧ L = []) := by
 refine cal2 (n := 27) Tryz.func27 rfl rfl rfl rfl ?_
 intro S0 σ0 n0 hn0 H
 unfold M.impl_EncodeVector at h
 refine c_seq (rg (st_ex (ex_box (cs := [(Sl Cv Cu.1 Cw), (Sl Cy Cu.2 Cz)]) H hn0 rfl rfl) wn ?_))
 rintro _ σ2 ⟨b1, rfl, H, -⟩
 refine sa (I 0) rfl (w_end (q_then (c_seq (c_seq ?_))))
 obtain ⟨o3, hj, h'⟩ := bind_some h
 clear h
 refine c_cut (fun e a w => e = .normal ∧ ∃ (ρ : Nat → Value) (σ : St), a = fr 27 (updL ρ [(1, (Sl De Dd Dg)), (2, (pt b1 0)), (14, (B o3))]) ∧ w = σ.w ∧ Hp S0 σ0 σ [Ch.ro 0 (Sl De Dd Dg) Dd, Ch.ro 0 (Sl Cv Cu.1 Cw) Cu.1, Ch.ro 0 (Sl Cy Cu.2 Cz) Cu.2, Ch.bx n0 b1 0 [(Sl Cv Cu.1 Cw), (Sl Cy Cu.2 Cz)] [] []]) ?_ ?_
 ·clear h'
  rename _ = some o3 => h
  refine rg ?_
  have hc4 := H.cells 0 rfl
  refine st (v := (.agg #[(Sl Cv Cu.1 Cw), (Sl Cy Cu.2 Cz)])) (rv_load (cs := [(Sl Cv Cu.1 Cw), (Sl Cy Cu.2 Cz)]) Tryz.underlying47 rfl ti47 rfl rfl hc4) ?_
  revert h; refine br fun r5 hx6 h => ?_
  have hc7 := c_impl_ValidBook (Cv := Cv) (Cw := Cw) (Cy := Cy) (Cz := Cz) hx6
  refine st_call (cx_call hc7 (ent_f hc7.fn rfl) hn0 (H.sel' [1, 2, 0, 1, 2, 3] rfl rfl : Hp S0 σ0 _ ([_, _] ++ _))) wn ?_
  rintro _ σ8 ⟨_, ⟨rfl, rfl⟩, H, -⟩
  replace H : Hp _ _ _ [_, _, _, _] := H
  refine st (v := (B (!r5))) (rv_not rfl) (sm (B (!r5)) rfl ?_)
  rcases Bool.eq_false_or_eq_true (!r5) with hb9 | hb9
  ·replace h := bif_t hb9 h
   refine st_skip (congrArg some hb9) (st_skip (congrArg some hb9) (st_skip (congrArg some hb9) (st (v := (B true)) (rv_pick_t (congrArg B hb9) rfl) (w_end ?_))))
   obtain rfl := sj h
   exact ⟨rfl, _, σ8, fr_join ⟨rfl, rfl, rfl, trivial⟩, rfl, H.sel' [3, 1, 2, 0] rfl rfl⟩
  ·replace h := bif_f hb9 h
   refine st_g (v := (Sl De Dd Dg)) (congrArg some hb9) (rv_move rfl) ?_
   revert h; refine br fun r10 hx11 h => ?_
   have hc12 := c_impl_ValidVector (Cf := De) (Cg := Dg) hx11
   refine st_call (cx_call hc12 (ent_f hc12.fn rfl) hn0 (H.sel' [3, 0, 1, 2, 3] rfl rfl : Hp S0 σ0 _ ([_] ++ _))) (wanted_yes rfl (by exact (congrArg some hb9))) ?_
   rintro _ σ13 ⟨_, ⟨rfl, rfl⟩, H, -⟩
   replace H : Hp _ _ _ [_, _, _, _] := H
   refine st_g (v := (B (!r10))) (congrArg some hb9) (rv_not rfl) (st (v := (B (!r10))) (rv_pick_f (congrArg B hb9) rfl) (w_end ?_))
   obtain rfl := sj h
   exact ⟨rfl, _, σ13, fr_join ⟨rfl, rfl, rfl, trivial⟩, rfl, H.sel' [3, 1, 2, 0] rfl rfl⟩
 ·clear hj
  have h := h'
  clear h' H
  rintro e a w ⟨rfl, ρ, σ14, rfl, rfl, H⟩
  refine q_then ?_
  refine cd_cond o3 rfl (fun hb15 => ?_) (fun hb15 => ?_)
  ·replace h := bif_t hb15 h
   refine c_seq (rg (sa (I (-1)) rfl (w_end (q_then (c_ret (q_then_r ?_))))))
   obtain rfl := sj h
   exact fin_ret (v := (I (-1))) (results_ok Tryz.results27 (res_tmp (v := (I (-1))) rfl res_nil) rfl) ⟨rfl, rfl⟩ (H.sel' [] rfl rfl)
  ·replace h := bif_f hb15 h
   refine c_skip (q_then (c_seq (rg ?_)))
   have hc16 := H.cells 3 rfl
   refine st (v := (.agg #[(Sl Cv Cu.1 Cw), (Sl Cy Cu.2 Cz)])) (rv_load (cs := [(Sl Cv Cu.1 Cw), (Sl Cy Cu.2 Cz)]) Tryz.underlying47 rfl ti47 rfl rfl hc16) (sm (Sl De Dd Dg) rfl ?_)
   revert h; refine br fun r17 hx18 h => ?_
   have hc19 := c_impl_tablesOf (Cv := Cv) (Cw := Cw) (Cy := Cy) (Cz := Cz) (De := De) (Dg := Dg) hx18
   refine st_call (cx_call hc19 (ent_f hc19.fn rfl) hn0 (H.sel' [1, 2, 0, 0, 1, 2, 3] rfl rfl : Hp S0 σ0 _ ([_, _, _] ++ _))) wn ?_
   rintro _ σ22 ⟨_, ⟨rfl, rfl, hl20, hl21⟩, H, -⟩
   replace H : Hp _ _ _ [_, _, _, _] := H
   refine sm (.tuple #[(.agg (List.map I r17.1).toArray), (.agg (List.map I r17.2).toArray)]) rfl (st (v := (.agg (List.map I r17.1).toArray)) (rv_extract rfl rfl) (st (v := (.agg (List.map I r17.2).toArray)) (rv_extract rfl rfl) (st_ex (ex_alloc (cs := (List.map I (List.replicate 4 0))) H hn0 ti87 rfl) wn ?_)))
   rintro _ σ24 ⟨b23, rfl, H, -⟩
   refine st_ex (ex_alloc (cs := (List.map I (List.replicate 4 0))) H hn0 ti87 rfl) wn ?_
   rintro _ σ26 ⟨b25, rfl, H, -⟩
   refine st_exS (ex_store_box (k := 0) (cs := (List.map I (List.replicate 4 0))) (vs := (List.map I r17.1)) (cs' := (List.map I r17.1)) H (i := 1) rfl ti87 rfl rfl rfl rfl ((List.length_map _).trans hl20) (arr_fits (k := 4) hl20 rfl) (plain_ints _) (arr_all (k := 4) hl20 rfl)) wn ?_
   rintro σ27 ⟨H, -⟩
   refine st_exS (ex_store_box (k := 0) (cs := (List.map I (List.replicate 4 0))) (vs := (List.map I r17.2)) (cs' := (List.map I r17.2)) H (i := 1) rfl ti87 rfl rfl rfl rfl ((List.length_map _).trans hl21) (arr_fits (k := 4) hl21 rfl) (plain_ints _) (arr_all (k := 4) hl21 rfl)) wn ?_
   rintro σ28 ⟨H, -⟩
   refine w_end (q_then (c_seq ?_))
   have hc29 := H.cells 1 rfl
   revert h; refine br fun r30 hx31 h => ?_
   have hc32 := c_impl_sideTable_nearest hl20 hx31
   have hc33 := H.cells 0 rfl
   revert h; refine br fun r34 hx35 h => ?_
   have hc36 := c_impl_sideTable_nearest hl21 hx35
   have Hs := H
   refine rg2 (σ := σ28) (Nm := Unit) 5 [1, 4] [[false, false], [true, false], [true, true]] [[(0, 0)], [(0, 1)], [(1, 1), (2, 2)], [(0, 0), (1, 1)], [(1, 2)]] 2 [fun _ => fun σm => Hp S0 σ0 σm [Ch.bx n0 b25 0 (List.map I r17.2) [] [], Ch.bx n0 b23 0 (List.map I r17.1) [] [], Ch.ro 0 (Sl De Dd Dg) Dd, Ch.ro 0 (Sl Cv Cu.1 Cw) Cu.1, Ch.ro 0 (Sl Cy Cu.2 Cz) Cu.2, Ch.bx n0 b1 0 [(Sl Cv Cu.1 Cw), (Sl Cy Cu.2 Cz)] [] []] ∧ Md (cov []) σ28 σm, fun _ => fun σm => Hp S0 σ0 σm [Ch.bx n0 b25 0 (List.map I r17.2) [] [], Ch.bx n0 b23 0 (List.map I r17.1) [] [], Ch.ro 0 (Sl De Dd Dg) Dd, Ch.ro 0 (Sl Cv Cu.1 Cw) Cu.1, Ch.ro 0 (Sl Cy Cu.2 Cz) Cu.2, Ch.bx n0 b1 0 [(Sl Cv Cu.1 Cw), (Sl Cy Cu.2 Cz)] [] []] ∧ Md (cov []) σ28 σm, fun _ => fun σm => Hp S0 σ0 σm [Ch.bx n0 b25 0 (List.map I r17.2) [] [], Ch.bx n0 b23 0 (List.map I r17.1) [] [], Ch.ro 0 (Sl De Dd Dg) Dd, Ch.ro 0 (Sl Cv Cu.1 Cw) Cu.1, Ch.ro 0 (Sl Cy Cu.2 Cz) Cu.2, Ch.bx n0 b1 0 [(Sl Cv Cu.1 Cw), (Sl Cy Cu.2 Cz)] [] []] ∧ Md (cov []) σ28 σm] [fun _ => (.agg (List.map I r17.1).toArray), fun _ => (I r30), fun _ => (I (w64 (4 * r30))), fun _ => (.agg (List.map I r17.2).toArray), fun _ => (I r34)] () (by kernel_rfl) (by kernel_rfl) ?_ ?_ ?_
   ·intro σm m0
    exact ⟨H.grow (m0.mono fun _ h => h.elim), m0⟩
   ·refine all_cons (by
      refine ⟨?_, ?_⟩
      ·intro _nm ρ σm hJ hoff hdep
       have e5 := look_off (N := 27) (hoff 5 rfl) rfl
       obtain ⟨H, m⟩ := id hJ
       have hc29 := H.cells 1 rfl
       exact dp_v (v := (.agg (List.map I r17.1).toArray)) wn (rv_load (cs := (List.map I r17.1)) Tryz.underlying87 rfl ti87 e5 (by rw [List.length_map]; exact hl20) hc29) rfl hJ
      trivial) ?_
    refine all_cons (by
      refine ⟨?_, ?_⟩
      ·intro _nm ρ σm hJ hoff hdep
       have e21 : look 27 ρ 21 = (.agg (List.map I r17.1).toArray) := hdep 0 rfl rfl 21 rfl
       obtain ⟨H, m⟩ := id hJ
       refine dp_cx wn (cx_call hc32 (ent_f hc32.fn (by show [look 27 ρ 21] = _; rw [e21])) hn0 (H.sel' [0, 1, 2, 3, 4, 5] rfl rfl : Hp S0 σ0 _ ([] ++ _))) ?_
       rintro _ σq ⟨_, ⟨rfl, rfl⟩, H2, m2⟩
       exact ⟨_, (), rfl, rfl, ⟨H2.sel' [0, 1, 2, 3, 4, 5] rfl rfl, m.comp0 m2⟩, stab [0, 3] (by kernel_rfl) ⟨rfl, rfl, trivial⟩⟩
      trivial) ?_
    refine ac rfl (by
      intro k _nm ρ σm hJ hoff hdep
      have e22 := hdep 1 rfl rfl 22 rfl
      exact dp_v (v := (I (w64 (4 * r30)))) wn (rv_mul (a := 4) (b := r30) rfl e22) rfl hJ) ?_
    refine all_cons (by
      refine ⟨?_, ?_⟩
      ·intro _nm ρ σm hJ hoff hdep
       have e6 := look_off (N := 27) (hoff 6 rfl) rfl
       obtain ⟨H, m⟩ := id hJ
       have hc33 := H.cells 0 rfl
       exact dp_v (v := (.agg (List.map I r17.2).toArray)) wn (rv_load (cs := (List.map I r17.2)) Tryz.underlying87 rfl ti87 e6 (by rw [List.length_map]; exact hl21) hc33) rfl hJ
      refine ⟨?_, ?_⟩
      ·intro _nm ρ σm hJ hoff hdep
       have e6 := look_off (N := 27) (hoff 6 rfl) rfl
       obtain ⟨H, m⟩ := id hJ
       have hc33 := H.cells 0 rfl
       exact dp_v (v := (.agg (List.map I r17.2).toArray)) wn (rv_load (cs := (List.map I r17.2)) Tryz.underlying87 rfl ti87 e6 (by rw [List.length_map]; exact hl21) hc33) rfl hJ
      trivial) ?_
    refine all_cons (by
      refine ⟨?_, ?_⟩
      ·intro _nm ρ σm hJ hoff hdep
       have e24 : look 27 ρ 24 = (.agg (List.map I r17.2).toArray) := hdep 3 rfl rfl 24 rfl
       obtain ⟨H, m⟩ := id hJ
       refine dp_cx wn (cx_call hc36 (ent_f hc36.fn (by show [look 27 ρ 24] = _; rw [e24])) hn0 (H.sel' [0, 1, 2, 3, 4, 5] rfl rfl : Hp S0 σ0 _ ([] ++ _))) ?_
       rintro _ σq ⟨_, ⟨rfl, rfl⟩, H2, m2⟩
       exact ⟨_, (), rfl, rfl, ⟨H2.sel' [0, 1, 2, 3, 4, 5] rfl rfl, m.comp0 m2⟩, stab [0, 1, 2, 3] (by kernel_rfl) ⟨rfl, rfl, rfl, rfl, trivial⟩⟩
      trivial) ?_
    exact all_nil
   ·intro _nm ρ σ37 hJ hoff hrel
    have e23 := hrel 2 rfl 23 rfl
    have e25 := hrel 4 rfl 25 rfl
    obtain ⟨H, -⟩ := (show Hp S0 σ0 σ37 [Ch.bx n0 b25 0 (List.map I r17.2) [] [], Ch.bx n0 b23 0 (List.map I r17.1) [] [], Ch.ro 0 (Sl De Dd Dg) Dd, Ch.ro 0 (Sl Cv Cu.1 Cw) Cu.1, Ch.ro 0 (Sl Cy Cu.2 Cz) Cu.2, Ch.bx n0 b1 0 [(Sl Cv Cu.1 Cw), (Sl Cy Cu.2 Cz)] [] []] ∧ Md (cov []) σ28 σ37 from hJ)
    clear hJ Hs
    rw [fr_lookL (L := [(23, (I (w64 (4 * r30)))), (25, (I r34))]) ⟨e23, e25, trivial⟩]
    clear hoff hrel e23 e25
    refine st (v := (I (w64 ((w64 (4 * r30)) + r34)))) (rv_add (a := (w64 (4 * r30))) (b := r34) rfl rfl) (sa (I (w64 ((w64 (4 * r30)) + r34))) rfl (w_end (q_then (c_ret ?_))))
    obtain rfl := sj h
    exact fin_ret (v := (I (w64 ((w64 (4 * r30)) + r34)))) (results_ok Tryz.results27 (res_tmp (v := (I (w64 ((w64 (4 * r30)) + r34)))) rfl res_nil) rfl) ⟨rfl, rfl⟩ (H.sel' [] rfl rfl)

theorem c_impl_CodeNearest_1__p24__p_impl_Book {Aj : Int × (List Int) × Int} {Aq : List Int} {Fh : (List (List Int)) × (List (List Int))} {Ci : Option Addr} {Cj : Nat} {Fi : Option Addr} {Fj : Nat} {Ar As Au : Nat} {Av Aw : List Value} {Fk : Option Addr} {Fl : Nat} {Fm : Option Addr} {Fn : Nat} {Fo Fp Fq : Nat} {Fr Fs : List Value} {r : Int} (h : M.impl_CodeNearest_1__p24__p_impl_Book Aj Aq Fh = some r) :
    Cal2 Tryz.prog 68 [(.agg #[(I Aj.1), (Sl Ci Aj.2.1 Cj), (I Aj.2.2)]), (pt As Au), (pt Fp Fq)] [Ch.ro 0 (Sl Ci Aj.2.1 Cj) Aj.2.1, Ch.bx Ar As Au [(Sl Fi Aq Fj)] Av Aw, Ch.ro 0 (Sl Fi Aq Fj) Aq, Ch.bx Fo Fp Fq [(Sl Fk Fh.1 Fl), (Sl Fm Fh.2 Fn)] Fr Fs, Ch.ro 0 (Sl Fk Fh.1 Fl) Fh.1, Ch.ro 0 (Sl Fm Fh.2 Fn) Fh.2] (fun n0 v L => v = (I r) ∧ L = [Ch.bx Ar As Au [(Sl Fi Aq Fj)] Av Aw, Ch.bx Fo Fp Fq [(Sl Fk Fh.1 Fl), (Sl Fm Fh.2 Fn)] Fr Fs]) := by
 refine cal2 (n := 12) Tryz.func68 rfl rfl rfl rfl ?_
 intro S0 σ0 n0 hn0 H
 unfold M.impl_CodeNearest_1__p24__p_impl_Book at h
 refine c_seq (rg (st_ex (ex_box (cs := [(I Aj.1), (Sl Ci Aj.2.1 Cj), (I Aj.2.2)]) H hn0 rfl rfl) wn ?_))
 rintro _ σ2 ⟨b1, rfl, H, -⟩
 refine sa (I 0) rfl (w_end (q_then (c_seq ?_)))
 have hc3 := H.cell (u := (Sl Fi Aq Fj)) (o' := Au) 2 0 rfl rfl rfl
 have hc4 := H.cells 4 rfl
 have hc5 := H.cell (u := (Sl Ci Aj.2.1 Cj)) (o' := 1) 0 1 rfl rfl rfl
 revert h; refine br fun r6 hx7 h => ?_
 have hc8 := c_impl_EncodeVector (Cv := Fk) (Cw := Fl) (Cy := Fm) (Cz := Fn) (De := Ci) (Dg := Cj) hx7
 have Hs := H
 refine rg2 (σ := σ2) (Nm := Unit) 5 [4] [[false], [true]] [[(0, 0), (1, 1)], [(0, 0)], [(0, 0)], [(0, 0)], [(0, 1)]] 1 [fun _ => fun σm => Hp S0 σ0 σm [Ch.bx n0 b1 0 [(I Aj.1), (Sl Ci Aj.2.1 Cj), (I Aj.2.2)] [] [], Ch.ro 0 (Sl Ci Aj.2.1 Cj) Aj.2.1, Ch.bx Ar As Au [(Sl Fi Aq Fj)] Av Aw, Ch.ro 0 (Sl Fi Aq Fj) Aq, Ch.bx Fo Fp Fq [(Sl Fk Fh.1 Fl), (Sl Fm Fh.2 Fn)] Fr Fs, Ch.ro 0 (Sl Fk Fh.1 Fl) Fh.1, Ch.ro 0 (Sl Fm Fh.2 Fn) Fh.2] ∧ Md (cov []) σ2 σm, fun _ => fun σm => Hp S0 σ0 σm [Ch.bx n0 b1 0 [(I Aj.1), (Sl Ci Aj.2.1 Cj), (I Aj.2.2)] [] [], Ch.ro 0 (Sl Ci Aj.2.1 Cj) Aj.2.1, Ch.bx Ar As Au [(Sl Fi Aq Fj)] Av Aw, Ch.ro 0 (Sl Fi Aq Fj) Aq, Ch.bx Fo Fp Fq [(Sl Fk Fh.1 Fl), (Sl Fm Fh.2 Fn)] Fr Fs, Ch.ro 0 (Sl Fk Fh.1 Fl) Fh.1, Ch.ro 0 (Sl Fm Fh.2 Fn) Fh.2] ∧ Md (cov []) σ2 σm] [fun _ => (Sl Fi Aq Fj), fun _ => (.agg #[(Sl Fk Fh.1 Fl), (Sl Fm Fh.2 Fn)]), fun _ => (pt b1 1), fun _ => (Sl Ci Aj.2.1 Cj), fun _ => (I r6)] () (by kernel_rfl) (by kernel_rfl) ?_ ?_ ?_
 ·intro σm m0
  exact ⟨H.grow (m0.mono fun _ h => h.elim), m0⟩
 ·refine all_cons (by
    refine ⟨?_, ?_⟩
    ·intro _nm ρ σm hJ hoff hdep
     have e1 := look_off (N := 12) (hoff 1 rfl) rfl
     obtain ⟨H, m⟩ := id hJ
     have hc3 := H.cell (u := (Sl Fi Aq Fj)) (o' := Au) 2 0 rfl rfl rfl
     exact dp_v (v := (Sl Fi Aq Fj)) wn (rv_load1 Tryz.underlying24 rfl e1 hc3) rfl hJ
    refine ⟨?_, ?_⟩
    ·intro _nm ρ σm hJ hoff hdep
     have e1 := look_off (N := 12) (hoff 1 rfl) rfl
     obtain ⟨H, m⟩ := id hJ
     have hc3 := H.cell (u := (Sl Fi Aq Fj)) (o' := Au) 2 0 rfl rfl rfl
     exact dp_v (v := (Sl Fi Aq Fj)) wn (rv_load1 Tryz.underlying24 rfl e1 hc3) rfl hJ
    trivial) ?_
  refine all_cons (by
    refine ⟨?_, ?_⟩
    ·intro _nm ρ σm hJ hoff hdep
     have e2 := look_off (N := 12) (hoff 2 rfl) rfl
     obtain ⟨H, m⟩ := id hJ
     have hc4 := H.cells 4 rfl
     exact dp_v (v := (.agg #[(Sl Fk Fh.1 Fl), (Sl Fm Fh.2 Fn)])) wn (rv_load (cs := [(Sl Fk Fh.1 Fl), (Sl Fm Fh.2 Fn)]) Tryz.underlying47 rfl ti47 e2 rfl hc4) rfl hJ
    trivial) ?_
  refine ac rfl (by
    intro k _nm ρ σm hJ hoff hdep
    have e3 := look_off (N := 12) (hoff 3 rfl) rfl
    exact dp_v (v := (pt b1 1)) wn (rv_fieldAddr (off := 1) (ft := 24) Tryz.underlying33 rfl ti24 rfl e3) rfl hJ) ?_
  refine all_cons (by
    refine ⟨?_, ?_⟩
    ·intro _nm ρ σm hJ hoff hdep
     have e7 := hdep 2 rfl rfl 7 rfl
     obtain ⟨H, m⟩ := id hJ
     have hc5 := H.cell (u := (Sl Ci Aj.2.1 Cj)) (o' := 1) 0 1 rfl rfl rfl
     exact dp_v (v := (Sl Ci Aj.2.1 Cj)) wn (rv_load1 Tryz.underlying24 rfl e7 hc5) rfl hJ
    trivial) ?_
  refine all_cons (by
    refine ⟨?_, ?_⟩
    ·intro _nm ρ σm hJ hoff hdep
     have e6 : look 12 ρ 6 = (.agg #[(Sl Fk Fh.1 Fl), (Sl Fm Fh.2 Fn)]) := hdep 1 rfl rfl 6 rfl
     have e8 : look 12 ρ 8 = (Sl Ci Aj.2.1 Cj) := hdep 3 rfl rfl 8 rfl
     obtain ⟨H, m⟩ := id hJ
     refine dp_cx wn (cx_call hc8 (ent_f hc8.fn (by show [look 12 ρ 6, look 12 ρ 8] = _; rw [e6, e8])) hn0 (H.sel' [5, 6, 1, 0, 1, 2, 3, 4, 5, 6] rfl rfl : Hp S0 σ0 _ ([_, _, _] ++ _))) ?_
     rintro _ σq ⟨_, ⟨rfl, rfl⟩, H2, m2⟩
     exact ⟨_, (), rfl, rfl, ⟨H2.sel' [0, 1, 2, 3, 4, 5, 6] rfl rfl, m.comp0 (m2.mono (fun i h => by simp [cov, Ch.ro] at h))⟩, stab [0, 1, 2, 3] (by kernel_rfl) ⟨rfl, rfl, rfl, rfl, trivial⟩⟩
    trivial) ?_
  exact all_nil
 ·intro _nm ρ σ9 hJ hoff hrel
  have e1 := look_off (N := 12) (hoff 1 rfl) rfl
  have e2 := look_off (N := 12) (hoff 2 rfl) rfl
  have e5 := hrel 0 rfl 5 rfl
  have e9 := hrel 4 rfl 9 rfl
  obtain ⟨H, -⟩ := (show Hp S0 σ0 σ9 [Ch.bx n0 b1 0 [(I Aj.1), (Sl Ci Aj.2.1 Cj), (I Aj.2.2)] [] [], Ch.ro 0 (Sl Ci Aj.2.1 Cj) Aj.2.1, Ch.bx Ar As Au [(Sl Fi Aq Fj)] Av Aw, Ch.ro 0 (Sl Fi Aq Fj) Aq, Ch.bx Fo Fp Fq [(Sl Fk Fh.1 Fl), (Sl Fm Fh.2 Fn)] Fr Fs, Ch.ro 0 (Sl Fk Fh.1 Fl) Fh.1, Ch.ro 0 (Sl Fm Fh.2 Fn) Fh.2] ∧ Md (cov []) σ2 σ9 from hJ)
  clear hJ Hs
  rw [fr_lookL (L := [(1, (pt As Au)), (2, (pt Fp Fq)), (5, (Sl Fi Aq Fj)), (9, (I r6))]) ⟨e1, e2, e5, e9, trivial⟩]
  clear hoff hrel e1 e2 e5 e9
  revert h; refine br fun x10 hx11 h => ?_
  obtain ⟨b13, o14, hi12, -⟩ := (H.ro 3 rfl).ix hx11
  refine st (v := (pt b13 o14)) (rv_ix Tryz.underlying24 ti3 rfl rfl hi12) ?_
  have hc15 := ((H.ro 3 rfl).at hx11 hi12).int
  refine st (v := (I x10)) (rv_load1 Tryz.underlying3 rfl rfl hc15) (sa (I x10) rfl (w_end (q_then (c_ret ?_))))
  obtain rfl := sj h
  exact fin_ret (v := (I x10)) (results_ok Tryz.results68 (res_tmp (v := (I x10)) rfl res_nil) rfl) ⟨rfl, rfl⟩ (H.sel' [2, 4] rfl rfl)

theorem c_impl_nearestBy__impl_CodeNearest_1 {Bg : List (Int × (List Int) × Int)} {Ft : Int} {Fu : List Int} {Fv : (List (List Int)) × (List (List Int))} {Bi : Option Addr} {Bj : Nat} {Fw : Option Addr} {Fx : Nat} {Fy Ga Gb : Nat} {Gc Gd : List Value} {Ge : Option Addr} {Gf : Nat} {Gg : Option Addr} {Gh : Nat} {Gi Gj Gk : Nat} {Gl Gm : List Value} {r : (List (Int × Int))} (h : M.impl_nearestBy__impl_CodeNearest_1 Bg Ft Fu Fv = some r) :
    Cal2 Tryz.prog 67 [(Sl Bi Bg Bj), (I Ft), (.func (.func 68) #[] #[(pt Ga Gb), (pt Gj Gk)])] [Ch.ro 0 (Sl Bi Bg Bj) Bg, Ch.bx Fy Ga Gb [(Sl Fw Fu Fx)] Gc Gd, Ch.ro 0 (Sl Fw Fu Fx) Fu, Ch.bx Gi Gj Gk [(Sl Ge Fv.1 Gf), (Sl Gg Fv.2 Gh)] Gl Gm, Ch.ro 0 (Sl Ge Fv.1 Gf) Fv.1, Ch.ro 0 (Sl Gg Fv.2 Gh) Fv.2] (fun n0 v L => ∃ (az1 : Option Addr), ∃ (cz2 : Nat), v = (Sl az1 r cz2) ∧ L = [Ch.own 0 n0 (Sl az1 r cz2) r, Ch.bx Fy Ga Gb [(Sl Fw Fu Fx)] Gc Gd, Ch.bx Gi Gj Gk [(Sl Ge Fv.1 Gf), (Sl Gg Fv.2 Gh)] Gl Gm]) := by
 refine cal2 (n := 27) Tryz.func67 rfl rfl rfl rfl ?_
 intro S0 σ0 n0 hn0 H
 unfold M.impl_nearestBy__impl_CodeNearest_1 at h
 refine c_seq (rg (sa (.slice none 0 0) rfl (w_end (q_then (c_seq (rg (sm (I Ft) rfl ?_)))))))
 refine st (v := (.agg #[(I Ft), (.slice none 0 0)])) (rv_build (ps := [(0, (I Ft))]) Tryz.underlying116 ti116 (bp116 Tryz.underlying116) rfl (by kernel_rfl)) ?_
 refine st_ex (ex_alloc (cs := [(I 0), (.slice none 0 0)]) H hn0 ti116 rfl) wn ?_
 rintro _ σ2 ⟨b1, rfl, H, -⟩
 refine st_exS (ex_store_box (k := 0) (cs := [(I 0), (.slice none 0 0)]) (vs := [(I Ft), (.slice none 0 0)]) (cs' := [(I Ft), (.slice none 0 0)]) H (i := 0) rfl ti116 rfl rfl rfl rfl rfl (Nat.le_of_ble_eq_true rfl) (by simp [plain]) rfl) wn ?_
 rintro σ3 ⟨H, -⟩
 refine w_end (q_then (c_seq (c_seq (rg (sm (Sl Bi Bg Bj) rfl (st (v := (I (Bg.length : Int))) (rv_len Tryz.underlying23 rfl) (sm (I 0) rfl (w_end (q_then ?_)))))))))
 obtain ⟨o4, hj, h'⟩ := bind_some h
 clear h
 refine c_cut (fun e a w => e = .normal ∧ ∃ (ρ : Nat → Value) (σ : St) (aj1 : Option Addr) (cj2 : Nat), a = fr 27 (updL ρ [(2, (.func (.func 68) #[] #[(pt Ga Gb), (pt Gj Gk)])), (7, (pt b1 0))]) ∧ w = σ.w ∧ Hp S0 σ0 σ [Ch.bx n0 b1 0 [(I o4.1), (Sl aj1 o4.2 cj2)] [] [], Ch.own 0 0 (Sl aj1 o4.2 cj2) o4.2, Ch.ro 0 (Sl Fw Fu Fx) Fu, Ch.bx Fy Ga Gb [(Sl Fw Fu Fx)] Gc Gd, Ch.ro 0 (Sl Ge Fv.1 Gf) Fv.1, Ch.ro 0 (Sl Gg Fv.2 Gh) Fv.2, Ch.bx Gi Gj Gk [(Sl Ge Fv.1 Gf), (Sl Gg Fv.2 Gh)] Gl Gm]) ?_ ?_
 ·clear h'
  rename _ = some o4 => h
  refine c_blk ?_
  replace H := H.nilOwn (Int × Int) 0 0
  refine wp_loopM _ h (fun s5 a w => ∃ (ρ : Nat → Value) (σ : St) (aj1 : Option Addr) (cj2 : Nat), a = fr 27 (updL ρ [(2, (.func (.func 68) #[] #[(pt Ga Gb), (pt Gj Gk)])), (7, (pt b1 0)), (12, (Sl Bi Bg Bj)), (13, (I (Bg.length : Int))), (14, (I s5.2))]) ∧ w = σ.w ∧ Hp S0 σ0 σ [Ch.bx n0 b1 0 [(I s5.1.1), (Sl aj1 s5.1.2 cj2)] [] [], Ch.own 0 0 (Sl aj1 s5.1.2 cj2) s5.1.2, Ch.ro 0 (Sl Fw Fu Fx) Fu, Ch.bx Fy Ga Gb [(Sl Fw Fu Fx)] Gc Gd, Ch.ro 0 (Sl Ge Fv.1 Gf) Fv.1, Ch.ro 0 (Sl Gg Fv.2 Gh) Fv.2, Ch.bx Gi Gj Gk [(Sl Ge Fv.1 Gf), (Sl Gg Fv.2 Gh)] Gl Gm, Ch.ro 0 (Sl Bi Bg Bj) Bg]) ⟨_, σ3, none, 0, fr_join ⟨rfl, rfl, rfl, rfl, rfl, trivial⟩, rfl, H.sel' [1, 0, 4, 3, 6, 7, 5, 2] rfl rfl⟩ ?_
  clear h H
  rintro s5 a w o ⟨ρ, σ6, a7, c8, rfl, rfl, H⟩ h hres
  refine c_seq (rg (st (v := (B (decide (s5.2 < (Bg.length : Int))))) (rv_lss (a := s5.2) (b := (Bg.length : Int)) rfl rfl) (w_end (q_then (c_seq ?_)))))
  refine cd_cond (decide (s5.2 < (Bg.length : Int))) rfl (fun hb9 => ?_) (fun hb9 => ?_)
  ·replace h := bif_t hb9 h
   refine c_skip (q_then (c_seq (c_blk (c_seq (rg ?_)))))
   revert h; refine br fun x10 hx11 h => ?_
   obtain ⟨b13, o14, hi12, -⟩ := (H.ro 7 rfl).ix hx11
   refine st (v := (pt b13 o14)) (rv_ix Tryz.underlying23 ti33 rfl rfl hi12) ?_
   obtain ⟨_, ⟨_, _, rfl, rfl, ⟨_, _, rfl, ⟨_, rfl, hR19⟩, rfl⟩⟩, hl15, hc16⟩ := ((H.ro 7 rfl).at hx11 hi12).cells
   obtain ⟨a17, c18, rfl⟩ := hR19.isSl
   replace H := H.add (d := Ch.ro 0 (Sl a17 x10.2.1 c18) x10.2.1) hR19 (fun _ h => h)
   clear hR19
   refine st (v := (.agg #[(I x10.1), (Sl a17 x10.2.1 c18), (I x10.2.2)])) (rv_load Tryz.underlying33 rfl ti33 rfl hl15 hc16) (st_ex (ex_alloc (cs := [(I 0), (.slice none 0 0), (I 0)]) H hn0 ti33 rfl) wn ?_)
   rintro _ σ21 ⟨b20, rfl, H, -⟩
   refine st_exS (ex_store_box (k := 0) (cs := [(I 0), (.slice none 0 0), (I 0)]) (vs := [(I x10.1), (Sl a17 x10.2.1 c18), (I x10.2.2)]) (cs' := [(I x10.1), (Sl a17 x10.2.1 c18), (I x10.2.2)]) H (i := 0) rfl ti33 rfl rfl rfl rfl rfl (Nat.le_of_ble_eq_true rfl) (by simp [plain]) rfl) wn ?_
   rintro σ22 ⟨H, -⟩
   refine w_end (q_then ?_)
   have hc23 := H.cell (u := (I x10.1)) (o' := 0) 0 0 rfl rfl rfl
   have hc24 := H.cells 0 rfl
   revert h; refine br fun r25 hx26 h => ?_
   have hc27 := c_impl_CodeNearest_1__p24__p_impl_Book (Ci := a17) (Cj := c18) (Ar := Fy) (As := Ga) (Au := Gb) (Av := Gc) (Aw := Gd) (Fi := Fw) (Fj := Fx) (Fo := Gi) (Fp := Gj) (Fq := Gk) (Fr := Gl) (Fs := Gm) (Fk := Ge) (Fl := Gf) (Fm := Gg) (Fn := Gh) hx26
   have Hs := H
   refine rg2 (σ := σ22) (Nm := Unit) 5 [4] [[false], [true]] [[(0, 0), (1, 1)], [(0, 0), (1, 1)], [(0, 0)], [(0, 0)], [(0, 1)]] 1 [fun _ => fun σm => Hp S0 σ0 σm [Ch.bx n0 b20 0 [(I x10.1), (Sl a17 x10.2.1 c18), (I x10.2.2)] [] [], Ch.ro 0 (Sl a17 x10.2.1 c18) x10.2.1, Ch.bx n0 b1 0 [(I s5.1.1), (Sl a7 s5.1.2 c8)] [] [], Ch.own 0 0 (Sl a7 s5.1.2 c8) s5.1.2, Ch.ro 0 (Sl Fw Fu Fx) Fu, Ch.bx Fy Ga Gb [(Sl Fw Fu Fx)] Gc Gd, Ch.ro 0 (Sl Ge Fv.1 Gf) Fv.1, Ch.ro 0 (Sl Gg Fv.2 Gh) Fv.2, Ch.bx Gi Gj Gk [(Sl Ge Fv.1 Gf), (Sl Gg Fv.2 Gh)] Gl Gm, Ch.ro 0 (Sl Bi Bg Bj) Bg] ∧ Md (cov []) σ22 σm, fun _ => fun σm => Hp S0 σ0 σm [Ch.bx Fy Ga Gb [(Sl Fw Fu Fx)] Gc Gd, Ch.bx Gi Gj Gk [(Sl Ge Fv.1 Gf), (Sl Gg Fv.2 Gh)] Gl Gm, Ch.bx n0 b20 0 [(I x10.1), (Sl a17 x10.2.1 c18), (I x10.2.2)] [] [], Ch.ro 0 (Sl a17 x10.2.1 c18) x10.2.1, Ch.bx n0 b1 0 [(I s5.1.1), (Sl a7 s5.1.2 c8)] [] [], Ch.own 0 0 (Sl a7 s5.1.2 c8) s5.1.2, Ch.ro 0 (Sl Fw Fu Fx) Fu, Ch.ro 0 (Sl Ge Fv.1 Gf) Fv.1, Ch.ro 0 (Sl Gg Fv.2 Gh) Fv.2, Ch.ro 0 (Sl Bi Bg Bj) Bg] ∧ Md (fun i => (cov []) i ∨ (cov [Ch.ro 0 (Sl a17 x10.2.1 c18) x10.2.1, Ch.bx Fy Ga Gb [(Sl Fw Fu Fx)] Gc Gd, Ch.ro 0 (Sl Fw Fu Fx) Fu, Ch.bx Gi Gj Gk [(Sl Ge Fv.1 Gf), (Sl Gg Fv.2 Gh)] Gl Gm, Ch.ro 0 (Sl Ge Fv.1 Gf) Fv.1, Ch.ro 0 (Sl Gg Fv.2 Gh) Fv.2]) i) σ22 σm] [fun _ => (pt b20 0), fun _ => (I x10.1), fun _ => (.func (.func 68) #[] #[(pt Ga Gb), (pt Gj Gk)]), fun _ => (.agg #[(I x10.1), (Sl a17 x10.2.1 c18), (I x10.2.2)]), fun _ => (I r25)] () (by kernel_rfl) (by kernel_rfl) ?_ ?_ ?_
   ·intro σm m0
    exact ⟨H.grow (m0.mono fun _ h => h.elim), m0⟩
   ·refine ac rfl (by
      intro k _nm ρ σm hJ hoff hdep
      have e9 := look_off (N := 27) (hoff 9 rfl) rfl
      exact dp_v (v := (pt b20 0)) wn (rv_fieldAddr (off := 0) (ft := 3) Tryz.underlying33 rfl ti3 rfl e9) rfl hJ) ?_
    refine all_cons (by
      refine ⟨?_, ?_⟩
      ·intro _nm ρ σm hJ hoff hdep
       have e18 := hdep 0 rfl rfl 18 rfl
       obtain ⟨H, m⟩ := id hJ
       have hc23 := H.cell (u := (I x10.1)) (o' := 0) 0 0 rfl rfl rfl
       exact dp_v (v := (I x10.1)) wn (rv_load1 Tryz.underlying3 rfl e18 hc23) rfl hJ
      refine ⟨?_, ?_⟩
      ·intro _nm ρ σm hJ hoff hdep
       have e18 := hdep 0 rfl rfl 18 rfl
       obtain ⟨H, m⟩ := id hJ
       have hc23 := H.cell (u := (I x10.1)) (o' := 0) 2 0 rfl rfl rfl
       exact dp_v (v := (I x10.1)) wn (rv_load1 Tryz.underlying3 rfl e18 hc23) rfl hJ
      trivial) ?_
    refine ac rfl (by
      intro k _nm ρ σm hJ hoff hdep
      have e2 := look_off (N := 27) (hoff 2 rfl) rfl
      exact dp_v (v := (.func (.func 68) #[] #[(pt Ga Gb), (pt Gj Gk)])) wn (rv_move e2) rfl hJ) ?_
    refine all_cons (by
      refine ⟨?_, ?_⟩
      ·intro _nm ρ σm hJ hoff hdep
       have e9 := look_off (N := 27) (hoff 9 rfl) rfl
       obtain ⟨H, m⟩ := id hJ
       have hc24 := H.cells 0 rfl
       exact dp_v (v := (.agg #[(I x10.1), (Sl a17 x10.2.1 c18), (I x10.2.2)])) wn (rv_load (cs := [(I x10.1), (Sl a17 x10.2.1 c18), (I x10.2.2)]) Tryz.underlying33 rfl ti33 e9 rfl hc24) rfl hJ
      trivial) ?_
    refine all_cons (by
      refine ⟨?_, ?_⟩
      ·intro _nm ρ σm hJ hoff hdep
       have e21 : look 27 ρ 21 = (.agg #[(I x10.1), (Sl a17 x10.2.1 c18), (I x10.2.2)]) := hdep 3 rfl rfl 21 rfl
       have e20 := hdep 2 rfl rfl 20 rfl
       obtain ⟨H, m⟩ := id hJ
       refine dp_cx wn (cx_call hc27 (ent_v (cap := [(pt Ga Gb), (pt Gj Gk)]) hc27.fn e20 (by show [look 27 ρ 21] ++ [(pt Ga Gb), (pt Gj Gk)] = _; rw [e21]; rfl)) hn0 (H.sel' [1, 5, 4, 8, 6, 7, 0, 1, 2, 3, 4, 6, 7, 9] rfl rfl : Hp S0 σ0 _ ([_, _, _, _, _, _] ++ _))) ?_
       rintro _ σq ⟨_, ⟨rfl, rfl⟩, H2, m2⟩
       exact ⟨_, (), rfl, rfl, ⟨H2.sel' [0, 1, 2, 3, 4, 5, 6, 7, 8, 9] rfl rfl, m.comp m2⟩, stab [0, 1, 2, 3] (by kernel_rfl) ⟨rfl, rfl, rfl, rfl, trivial⟩⟩
      trivial) ?_
    exact all_nil
   ·intro _nm ρ σ28 hJ hoff hrel
    have e2 := look_off (N := 27) (hoff 2 rfl) rfl
    have e7 := look_off (N := 27) (hoff 7 rfl) rfl
    have e12 := look_off (N := 27) (hoff 12 rfl) rfl
    have e13 := look_off (N := 27) (hoff 13 rfl) rfl
    have e14 := look_off (N := 27) (hoff 14 rfl) rfl
    have e19 := hrel 1 rfl 19 rfl
    have e22 := hrel 4 rfl 22 rfl
    obtain ⟨H, -⟩ := (show Hp S0 σ0 σ28 [Ch.bx Fy Ga Gb [(Sl Fw Fu Fx)] Gc Gd, Ch.bx Gi Gj Gk [(Sl Ge Fv.1 Gf), (Sl Gg Fv.2 Gh)] Gl Gm, Ch.bx n0 b20 0 [(I x10.1), (Sl a17 x10.2.1 c18), (I x10.2.2)] [] [], Ch.ro 0 (Sl a17 x10.2.1 c18) x10.2.1, Ch.bx n0 b1 0 [(I s5.1.1), (Sl a7 s5.1.2 c8)] [] [], Ch.own 0 0 (Sl a7 s5.1.2 c8) s5.1.2, Ch.ro 0 (Sl Fw Fu Fx) Fu, Ch.ro 0 (Sl Ge Fv.1 Gf) Fv.1, Ch.ro 0 (Sl Gg Fv.2 Gh) Fv.2, Ch.ro 0 (Sl Bi Bg Bj) Bg] ∧ Md (fun i => (cov []) i ∨ (cov [Ch.ro 0 (Sl a17 x10.2.1 c18) x10.2.1, Ch.bx Fy Ga Gb [(Sl Fw Fu Fx)] Gc Gd, Ch.ro 0 (Sl Fw Fu Fx) Fu, Ch.bx Gi Gj Gk [(Sl Ge Fv.1 Gf), (Sl Gg Fv.2 Gh)] Gl Gm, Ch.ro 0 (Sl Ge Fv.1 Gf) Fv.1, Ch.ro 0 (Sl Gg Fv.2 Gh) Fv.2]) i) σ22 σ28 from hJ)
    clear hJ Hs
    rw [fr_lookL (L := [(2, (.func (.func 68) #[] #[(pt Ga Gb), (pt Gj Gk)])), (7, (pt b1 0)), (12, (Sl Bi Bg Bj)), (13, (I (Bg.length : Int))), (14, (I s5.2)), (19, (I x10.1)), (22, (I r25))]) ⟨e2, e7, e12, e13, e14, e19, e22, trivial⟩]
    clear hoff hrel e2 e7 e12 e13 e14 e19 e22
    refine st (v := (.agg #[(I x10.1), (I r25)])) (rv_build (ps := [(0, (I x10.1)), (1, (I r25))]) Tryz.underlying44 ti44 (bp44 Tryz.underlying44) rfl (by kernel_rfl)) ?_
    revert h; refine br fun r29 hx30 h => ?_
    have hc31 := c_impl_nearestHits_offer (Ef := n0) (Eg := b1) (Eh := 0) (Ei := []) (Ej := []) (Ed := a7) (Ee := c8) hx30
    refine st_call (cx_call hc31 (ent_f hc31.fn rfl) hn0 (H.sel' [4, 5, 0, 1, 2, 3, 6, 7, 8, 9] rfl rfl : Hp S0 σ0 _ ([_, _] ++ _))) wn ?_
    rintro _ σ34 ⟨_, ⟨a32, c33, rfl, rfl⟩, H, -⟩
    replace H : Hp _ _ _ [_, _, _, _, _, _, _, _, _, _] := H
    replace H : Hp S0 σ0 σ34 [Ch.bx n0 b1 0 [(I r29.1), (Sl a32 r29.2 c33)] [] [], Ch.own 0 0 (Sl a32 r29.2 c33) r29.2, Ch.bx Fy Ga Gb [(Sl Fw Fu Fx)] Gc Gd, Ch.bx Gi Gj Gk [(Sl Ge Fv.1 Gf), (Sl Gg Fv.2 Gh)] Gl Gm, Ch.ro 0 (Sl Fw Fu Fx) Fu, Ch.ro 0 (Sl Ge Fv.1 Gf) Fv.1, Ch.ro 0 (Sl Gg Fv.2 Gh) Fv.2, Ch.ro 0 (Sl Bi Bg Bj) Bg] := H.sel' [0, 1, 2, 3, 6, 7, 8, 9] rfl rfl
    refine w_end (q_blk (q_then (rg (st (v := (I (w64 (s5.2 + 1)))) (rv_add (a := s5.2) (b := 1) rfl rfl) (sm (I (w64 (s5.2 + 1))) rfl (w_end (q_then ?_)))))))
    obtain rfl := sj h
    exact ⟨_, rfl, _, σ34, a32, c33, fr_join ⟨rfl, rfl, rfl, rfl, rfl, trivial⟩, rfl, H.sel' [0, 1, 4, 2, 5, 6, 3, 7] rfl rfl⟩
  ·replace h := bif_f hb9 h
   refine c_exit (q_then_x (q_then_x (q_blk_hit ?_)))
   obtain rfl := sj h
   obtain rfl := hres _ rfl
   exact ⟨rfl, _, σ6, a7, c8, fr_join ⟨rfl, rfl, trivial⟩, rfl, H.sel' [0, 1, 2, 3, 4, 5, 6] rfl rfl⟩
 ·clear hj
  have h := h'
  clear h' H
  rintro e a w ⟨rfl, ρ, σ35, a36, c37, rfl, rfl, H⟩
  refine q_then (c_seq (rg ?_))
  obtain ⟨σ38, hw39, H, -⟩ := H.pub 1 rfl (Nat.le_refl _)
  rw [← hw39]; clear hw39
  revert h; refine br fun r40 hx41 h => ?_
  have hc42 := c_impl_nearestHits_inOrder (Ef := n0) (Eg := b1) (Eh := 0) (Ei := []) (Ej := []) (Ed := a36) (Ee := c37) hx41
  refine st_call (cx_call hc42 (ent_f hc42.fn rfl) hn0 (H.sel' [1, 0, 0, 2, 3, 4, 5, 6] rfl rfl : Hp S0 σ0 _ ([_, _] ++ _))) wn ?_
  rintro _ σ45 ⟨_, ⟨a43, c44, rfl, rfl⟩, H, -⟩
  replace H : Hp _ _ _ [_, _, _, _, _, _, _, _] := H
  replace H : Hp S0 σ0 σ45 [Ch.own 0 n0 (Sl a43 r40 c44) r40, Ch.ro 0 (Sl Fw Fu Fx) Fu, Ch.bx Fy Ga Gb [(Sl Fw Fu Fx)] Gc Gd, Ch.ro 0 (Sl Ge Fv.1 Gf) Fv.1, Ch.ro 0 (Sl Gg Fv.2 Gh) Fv.2, Ch.bx Gi Gj Gk [(Sl Ge Fv.1 Gf), (Sl Gg Fv.2 Gh)] Gl Gm] := H.sel' [0, 3, 4, 5, 6, 7] rfl rfl
  refine sa (Sl a43 r40 c44) rfl (w_end (q_then (c_ret ?_)))
  obtain rfl := sj h
  exact fin_ret (v := (Sl a43 r40 c44)) (results_ok Tryz.results67 (res_tmp (v := (Sl a43 r40 c44)) rfl res_nil) rfl) ⟨a43, c44, rfl, rfl⟩ (H.sel' [0, 2, 5] rfl rfl)

theorem c_impl_CodeNearest {Cu : (List (List Int)) × (List (List Int))} {Bw : List (Int × (List Int) × Int)} {Dm : List Int} {Dn : Int} {Cv : Option Addr} {Cw : Nat} {Cy : Option Addr} {Cz : Nat} {By : Option Addr} {Bz : Nat} {Do : Option Addr} {Dq : Nat} {r : (List (Int × Int))} (h : M.impl_CodeNearest Cu Bw Dm Dn = some r) :
    Cal2 Tryz.prog 24 [(.agg #[(Sl Cv Cu.1 Cw), (Sl Cy Cu.2 Cz)]), (Sl By Bw Bz), (Sl Do Dm Dq), (I Dn)] [Ch.ro 0 (Sl Cv Cu.1 Cw) Cu.1, Ch.ro 0 (Sl Cy Cu.2 Cz) Cu.2, Ch.ro 0 (Sl By Bw Bz) Bw, Ch.ro 0 (Sl Do Dm Dq) Dm] (fun n0 v L => ∃ (az1 : Option Addr), ∃ (cz2 : Nat), v = (Sl az1 r cz2) ∧ L = [Ch.own 0 n0 (Sl az1 r cz2) r]) := by
 refine cal2 (n := 27) Tryz.func24 rfl rfl rfl rfl ?_
 intro S0 σ0 n0 hn0 H
 unfold M.impl_CodeNearest at h
 refine c_seq (rg (st_ex (ex_box (cs := [(Sl Cv Cu.1 Cw), (Sl Cy Cu.2 Cz)]) H hn0 rfl rfl) wn ?_))
 rintro _ σ2 ⟨b1, rfl, H, -⟩
 refine sa (.slice none 0 0) rfl (w_end (q_then (c_seq (c_seq ?_))))
 obtain ⟨o3, hj, h'⟩ := bind_some h
 clear h
 refine c_cut (fun e a w => e = .normal ∧ ∃ (ρ : Nat → Value) (σ : St), a = fr 27 (updL ρ [(1, (Sl By Bw Bz)), (2, (Sl Do Dm Dq)), (3, (I Dn)), (4, (pt b1 0)), (19, (B o3))]) ∧ w = σ.w ∧ Hp S0 σ0 σ [Ch.ro 0 (Sl By Bw Bz) Bw, Ch.ro 0 (Sl Do Dm Dq) Dm, Ch.ro 0 (Sl Cv Cu.1 Cw) Cu.1, Ch.ro 0 (Sl Cy Cu.2 Cz) Cu.2, Ch.bx n0 b1 0 [(Sl Cv Cu.1 Cw), (Sl Cy Cu.2 Cz)] [] []]) ?_ ?_
 ·clear h'
  rename _ = some o3 => h
  refine rg ?_
  have hc4 := H.cells 0 rfl
  refine st (v := (.agg #[(Sl Cv Cu.1 Cw), (Sl Cy Cu.2 Cz)])) (rv_load (cs := [(Sl Cv Cu.1 Cw), (Sl Cy Cu.2 Cz)]) Tryz.underlying47 rfl ti47 rfl rfl hc4) ?_
  revert h; refine br fun r5 hx6 h => ?_
  have hc7 := c_impl_ValidBook (Cv := Cv) (Cw := Cw) (Cy := Cy) (Cz := Cz) hx6
  refine st_call (cx_call hc7 (ent_f hc7.fn rfl) hn0 (H.sel' [1, 2, 0, 1, 2, 3, 4] rfl rfl : Hp S0 σ0 _ ([_, _] ++ _))) wn ?_
  rintro _ σ8 ⟨_, ⟨rfl, rfl⟩, H, -⟩
  replace H : Hp _ _ _ [_, _, _, _, _] := H
  refine st (v := (B (!r5))) (rv_not rfl) (sm (B (!r5)) rfl ?_)
  rcases Bool.eq_false_or_eq_true (!r5) with hb9 | hb9
  ·replace h := bif_t hb9 h
   refine st_skip (congrArg some hb9) (st_skip (congrArg some hb9) (st_skip (congrArg some hb9) (st_skip (congrArg some hb9) (st_skip (congrArg some hb9) (st (v := (B true)) (rv_pick_t (congrArg B hb9) rfl) (w_end ?_))))))
   obtain rfl := sj h
   exact ⟨rfl, _, σ8, fr_join ⟨rfl, rfl, rfl, rfl, rfl, trivial⟩, rfl, H.sel' [3, 4, 1, 2, 0] rfl rfl⟩
  ·replace h := bif_f hb9 h
   refine st_g (v := (Sl By Bw Bz)) (congrArg some hb9) (rv_move rfl) (st_g (v := (Sl Do Dm Dq)) (congrArg some hb9) (rv_move rfl) (st_g (v := (I Dn)) (congrArg some hb9) (rv_move rfl) ?_))
   revert h; refine br fun r10 hx11 h => ?_
   have hc12 := c_impl_validSearch (Bi := By) (Bj := Bz) (Do := Do) (Dq := Dq) hx11
   refine st_call (cx_call hc12 (ent_f hc12.fn rfl) hn0 (H.sel' [3, 4, 0, 1, 2, 3, 4] rfl rfl : Hp S0 σ0 _ ([_, _] ++ _))) (wanted_yes rfl (by exact (congrArg some hb9))) ?_
   rintro _ σ13 ⟨_, ⟨rfl, rfl⟩, H, -⟩
   replace H : Hp _ _ _ [_, _, _, _, _] := H
   refine st_g (v := (B (!r10))) (congrArg some hb9) (rv_not rfl) (st (v := (B (!r10))) (rv_pick_f (congrArg B hb9) rfl) (w_end ?_))
   obtain rfl := sj h
   exact ⟨rfl, _, σ13, fr_join ⟨rfl, rfl, rfl, rfl, rfl, trivial⟩, rfl, H.sel' [3, 4, 1, 2, 0] rfl rfl⟩
 ·clear hj
  have h := h'
  clear h' H
  rintro e a w ⟨rfl, ρ, σ14, rfl, rfl, H⟩
  refine q_then ?_
  refine cd_cond o3 rfl (fun hb15 => ?_) (fun hb15 => ?_)
  ·replace h := bif_t hb15 h
   refine c_seq (rg (sa (.slice none 0 0) rfl (w_end (q_then (c_ret (q_then_r ?_))))))
   replace H := H.nilOwn (Int × Int) 0 n0
   obtain rfl := sj h
   exact fin_ret (v := (.slice none 0 0)) (results_ok Tryz.results24 (res_tmp (v := (.slice none 0 0)) rfl res_nil) rfl) ⟨none, 0, rfl, rfl⟩ (H.sel' [0] rfl rfl)
  ·replace h := bif_f hb15 h
   refine c_skip (q_then (c_seq (rg ?_)))
   have hc16 := H.cells 4 rfl
   refine st (v := (.agg #[(Sl Cv Cu.1 Cw), (Sl Cy Cu.2 Cz)])) (rv_load (cs := [(Sl Cv Cu.1 Cw), (Sl Cy Cu.2 Cz)]) Tryz.underlying47 rfl ti47 rfl rfl hc16) (sm (Sl Do Dm Dq) rfl ?_)
   revert h; refine br fun r17 hx18 h => ?_
   have hc19 := c_impl_CodeDistances (Cv := Cv) (Cw := Cw) (Cy := Cy) (Cz := Cz) (De := Do) (Dg := Dq) hx18
   refine st_call (cx_call hc19 (ent_f hc19.fn rfl) hn0 (H.sel' [2, 3, 1, 0, 1, 2, 3, 4] rfl rfl : Hp S0 σ0 _ ([_, _, _] ++ _))) wn ?_
   rintro _ σ22 ⟨_, ⟨a20, c21, rfl, rfl⟩, H, -⟩
   replace H : Hp _ _ _ [_, _, _, _, _, _] := H
   refine st_ex (ex_alloc (cs := [(.slice none 0 0)]) H hn0 ti24 rfl) wn ?_
   rintro _ σ24 ⟨b23, rfl, H, -⟩
   refine st_exS (ex_store_box (k := 0) (cs := [(.slice none 0 0)]) (vs := [(Sl a20 r17 c21)]) (cs' := [(Sl a20 r17 c21)]) H (i := 0) rfl ti24 rfl rfl rfl rfl rfl (Nat.le_of_ble_eq_true rfl) (by simp [plain]) rfl) wn ?_
   rintro σ25 ⟨H, -⟩
   refine w_end (q_then (c_seq (rg (sm (Sl By Bw Bz) rfl (sm (I Dn) rfl (st (v := (.func (.func 68) #[] #[(pt b23 0), (pt b1 0)])) (rv_makeFunc (vs := [(pt b23 0), (pt b1 0)]) rfl) ?_))))))
   obtain ⟨σ26, hw27, H, -⟩ := H.pub 1 rfl (Nat.le_refl _)
   rw [← hw27]; clear hw27
   replace H := H.roLow 0 0 rfl (Nat.zero_le _)
   revert h; refine br fun r28 hx29 h => ?_
   have hc30 := c_impl_nearestBy__impl_CodeNearest_1 (Bi := By) (Bj := Bz) (Fy := n0) (Ga := b23) (Gb := 0) (Gc := []) (Gd := []) (Fw := a20) (Fx := c21) (Gi := n0) (Gj := b1) (Gk := 0) (Gl := []) (Gm := []) (Ge := Cv) (Gf := Cw) (Gg := Cy) (Gh := Cz) hx29
   refine st_call (cx_call hc30 (ent_f hc30.fn rfl) hn0 (H.sel' [3, 2, 0, 7, 5, 6, 0, 1, 3, 4, 5, 6] rfl rfl : Hp S0 σ0 _ ([_, _, _, _, _, _] ++ _))) wn ?_
   rintro _ σ33 ⟨_, ⟨a31, c32, rfl, rfl⟩, H, -⟩
   replace H : Hp _ _ _ [_, _, _, _, _, _, _, _, _] := H
   replace H : Hp S0 σ0 σ33 [Ch.own 0 n0 (Sl a31 r28 c32) r28] := H.sel' [0] rfl rfl
   refine sa (Sl a31 r28 c32) rfl (w_end (q_then (c_ret ?_)))
   obtain rfl := sj h
   exact fin_ret (v := (Sl a31 r28 c32)) (results_ok Tryz.results24 (res_tmp (v := (Sl a31 r28 c32)) rfl res_nil) rfl) ⟨a31, c32, rfl, rfl⟩ (H.sel' [0] rfl rfl)

theorem c_spec_validKind {Dj : Int}  {r : Bool} (h : M.spec_validKind Dj = some r) :
    Cal2 Tryz.prog 92 [(I Dj)] [] (fun n0 v L => v = (B r) ∧ L = []) := by
 refine cal2 (n := 5) Tryz.func92 rfl rfl rfl rfl ?_
 intro S0 σ0 n0 hn0 H
 unfold M.spec_validKind at h
 refine c_seq (rg (sa (B false) rfl (w_end (q_then (c_seq (rg (sm (I Dj) rfl ?_)))))))
 revert h; refine br fun r1 hx2 h => ?_
 have hc3 := c_spec_inRange hx2
 refine st_call (cx_call hc3 (ent_f hc3.fn rfl) hn0 (H.sel' [] rfl rfl : Hp S0 σ0 _ ([] ++ _))) wn ?_
 rintro _ σ4 ⟨_, ⟨rfl, rfl⟩, H, -⟩
 replace H : Hp _ _ _ [] := H
 refine sa (B r1) rfl (w_end (q_then (c_ret ?_)))
 obtain rfl := sj h
 exact fin_ret (v := (B r1)) (results_ok Tryz.results92 (res_tmp (v := (B r1)) rfl res_nil) rfl) ⟨rfl, rfl⟩ (H.sel' [] rfl rfl)

theorem c_spec_validQuery {Bg : List (Int × (List Int) × Int)} {Dk : Int} {Dm : List Int} {Bi : Option Addr} {Bj : Nat} {Do : Option Addr} {Dq : Nat} {r : Bool} (h : M.spec_validQuery Bg Dk Dm = some r) :
    Cal2 Tryz.prog 40 [(Sl Bi Bg Bj), (I Dk), (Sl Do Dm Dq)] [Ch.ro 0 (Sl Bi Bg Bj) Bg, Ch.ro 0 (Sl Do Dm Dq) Dm] (fun n0 v L => v = (B r) ∧ L = []) := by
 refine cal2 (n := 17) Tryz.func40 rfl rfl rfl rfl ?_
 intro S0 σ0 n0 hn0 H
 unfold M.spec_validQuery at h
 refine c_seq (rg (sa (B false) rfl (w_end (q_then (c_seq (rg (sm (Sl Bi Bg Bj) rfl ?_)))))))
 revert h; refine br fun r1 hx2 h => ?_
 have hc3 := c_spec_validStore (Bi := Bi) (Bj := Bj) hx2
 refine st_call (cx_call hc3 (ent_f hc3.fn rfl) hn0 (H.sel' [0, 0, 1] rfl rfl : Hp S0 σ0 _ ([_] ++ _))) wn ?_
 rintro _ σ4 ⟨_, ⟨rfl, rfl⟩, H, -⟩
 replace H : Hp _ _ _ [_, _] := H
 refine sm (B r1) rfl ?_
 rcases Bool.eq_false_or_eq_true r1 with hb5 | hb5
 ·replace h := bif_t hb5 h
  refine st_g (v := (I Dk)) (congrArg some hb5) (rv_move rfl) ?_
  revert h; refine br fun r6 hx7 h => ?_
  have hc8 := c_spec_validKind hx7
  refine st_call (cx_call hc8 (ent_f hc8.fn rfl) hn0 (H.sel' [0, 1] rfl rfl : Hp S0 σ0 _ ([] ++ _))) (wanted_yes rfl (by exact (congrArg some hb5))) ?_
  rintro _ σ9 ⟨_, ⟨rfl, rfl⟩, H, -⟩
  replace H : Hp _ _ _ [_, _] := H
  refine st (v := (B r6)) (rv_pick_t (congrArg B hb5) rfl) (sm (B r6) rfl ?_)
  rcases Bool.eq_false_or_eq_true r6 with hb10 | hb10
  ·replace h := bif_t hb10 h
   refine st_g (v := (Sl Do Dm Dq)) (congrArg some hb10) (rv_move rfl) ?_
   revert h; refine br fun r11 hx12 h => ?_
   have hc13 := c_spec_isVector (Cf := Do) (Cg := Dq) hx12
   refine st_call (cx_call hc13 (ent_f hc13.fn rfl) hn0 (H.sel' [1, 0, 1] rfl rfl : Hp S0 σ0 _ ([_] ++ _))) (wanted_yes rfl (by exact (congrArg some hb10))) ?_
   rintro _ σ14 ⟨_, ⟨rfl, rfl⟩, H, -⟩
   replace H : Hp _ _ _ [_, _] := H
   refine st (v := (B r11)) (rv_pick_t (congrArg B hb10) rfl) (sa (B r11) rfl (w_end (q_then (c_ret ?_))))
   obtain rfl := sj h
   exact fin_ret (v := (B r11)) (results_ok Tryz.results40 (res_tmp (v := (B r11)) rfl res_nil) rfl) ⟨rfl, rfl⟩ (H.sel' [] rfl rfl)
  ·replace h := bif_f hb10 h
   refine st_skip (congrArg some hb10) (st_skip (congrArg some hb10) (st (v := (B false)) (rv_pick_f (congrArg B hb10) rfl) (sa (B false) rfl (w_end (q_then (c_ret ?_))))))
   obtain rfl := sj h
   exact fin_ret (v := (B false)) (results_ok Tryz.results40 (res_tmp (v := (B false)) rfl res_nil) rfl) ⟨rfl, rfl⟩ (H.sel' [] rfl rfl)
 ·replace h := bif_f hb5 h
  refine st_skip (congrArg some hb5) (st_skip (congrArg some hb5) (st (v := (B false)) (rv_pick_f (congrArg B hb5) rfl) (sm (B false) rfl (st_skip rfl (st_skip rfl (st (v := (B false)) (rv_pick_f rfl rfl) (sa (B false) rfl (w_end (q_then (c_ret ?_))))))))))
  obtain rfl := sj h
  exact fin_ret (v := (B false)) (results_ok Tryz.results40 (res_tmp (v := (B false)) rfl res_nil) rfl) ⟨rfl, rfl⟩ (H.sel' [] rfl rfl)

theorem c_spec_validHalves {Bg : List (List Int)} {Bi : Option Addr} {Bj : Nat} {r : Bool} (h : M.spec_validHalves Bg = some r) :
    Cal2 Tryz.prog 114 [(Sl Bi Bg Bj)] [Ch.ro 0 (Sl Bi Bg Bj) Bg] (fun n0 v L => v = (B r) ∧ L = []) := by
 refine cal2 (n := 24) Tryz.func114 rfl rfl rfl rfl ?_
 intro S0 σ0 n0 hn0 H
 unfold M.spec_validHalves at h
 refine c_seq (rg (sa (B false) rfl (w_end (q_then (c_seq (c_seq (rg (sa (I 0) rfl (w_end (q_then ?_))))))))))
 obtain ⟨o1, hj, h'⟩ := bind_some h
 clear h
 refine c_cut (fun e a w => (∃ t, o1 = (.inl t) ∧ e = .normal ∧ ∃ (ρ : Nat → Value) (σ : St), a = fr 24 (updL ρ []) ∧ w = σ.w ∧ Hp S0 σ0 σ []) ∨ (∃ t, o1 = (.inr t) ∧ e = .ret ∧ ∃ (ρ : Nat → Value) (σ : St), a = fr 24 (updL ρ [(2, (B t))]) ∧ w = σ.w ∧ Hp S0 σ0 σ [])) ?_ ?_
 ·clear h'
  rename _ = some o1 => h
  refine c_blk (wp_loopM _ h (fun s2 a w => ∃ (ρ : Nat → Value) (σ : St), a = fr 24 (updL ρ [(0, (Sl Bi Bg Bj)), (3, (I s2))]) ∧ w = σ.w ∧ Hp S0 σ0 σ [Ch.ro 0 (Sl Bi Bg Bj) Bg]) ⟨_, σ0, fr_join ⟨rfl, rfl, trivial⟩, rfl, H.sel' [0] rfl rfl⟩ ?_)
  clear h H
  rintro s2 a w o ⟨ρ, σ3, rfl, rfl, H⟩ h hres
  refine c_seq (c_seq (rg (sm (I s2) rfl (sm (Sl Bi Bg Bj) rfl (st (v := (I (Bg.length : Int))) (rv_len Tryz.underlying37 rfl) (st (v := (B (decide (s2 < (Bg.length : Int))))) (rv_lss (a := s2) (b := (Bg.length : Int)) rfl rfl) (w_end (q_then ?_))))))))
  refine cd_cond (decide (s2 < (Bg.length : Int))) rfl (fun hb4 => ?_) (fun hb4 => ?_)
  ·replace h := bif_t hb4 h
   refine c_skip (q_then (c_seq (c_blk (c_seq ?_))))
   obtain ⟨o5, hj, h'⟩ := bind_some h
   clear h
   refine c_cut (fun e a w => e = .normal ∧ ∃ (ρ : Nat → Value) (σ : St), a = fr 24 (updL ρ [(0, (Sl Bi Bg Bj)), (3, (I s2)), (23, (B o5))]) ∧ w = σ.w ∧ Hp S0 σ0 σ [Ch.ro 0 (Sl Bi Bg Bj) Bg]) ?_ ?_
   ·clear h'
    rename _ = some o5 => h
    refine rg (sm (Sl Bi Bg Bj) rfl (sm (I s2) rfl ?_))
    revert h; refine br fun x6 hx7 h => ?_
    obtain ⟨b9, o10, hi8, -⟩ := (H.ro 0 rfl).ix hx7
    refine st (v := (pt b9 o10)) (rv_ix Tryz.underlying37 ti24 rfl rfl hi8) ?_
    obtain ⟨v14, hc15, hR13⟩ := ((H.ro 0 rfl).at hx7 hi8).slice
    obtain ⟨a11, c12, rfl⟩ := hR13.isSl
    replace H := H.add (d := Ch.ro 0 (Sl a11 x6 c12) x6) hR13 (fun _ h => h)
    clear hR13
    refine st (v := (Sl a11 x6 c12)) (rv_load1 Tryz.underlying24 rfl rfl hc15) (st (v := (I (x6.length : Int))) (rv_len Tryz.underlying24 rfl) (st (v := (B ((x6.length : Int) != 2))) (rv_neq (a := (x6.length : Int)) (b := 2) rfl rfl) (sm (B ((x6.length : Int) != 2)) rfl ?_)))
    rcases Bool.eq_false_or_eq_true ((x6.length : Int) != 2) with hb16 | hb16
    ·replace h := bif_t hb16 h
     refine st_skip (congrArg some hb16) (st_skip (congrArg some hb16) (st_skip (congrArg some hb16) (st_skip (congrArg some hb16) (st_skip (congrArg some hb16) (st_skip (congrArg some hb16) (st (v := (B true)) (rv_pick_t (congrArg B hb16) rfl) (w_end ?_)))))))
     obtain rfl := sj h
     exact ⟨rfl, _, σ3, fr_join ⟨rfl, rfl, rfl, trivial⟩, rfl, H.sel' [1] rfl rfl⟩
    ·replace h := bif_f hb16 h
     refine st_g (v := (Sl Bi Bg Bj)) (congrArg some hb16) (rv_move rfl) (st_g (v := (I s2)) (congrArg some hb16) (rv_move rfl) ?_)
     revert h; refine br fun x17 hx18 h => ?_
     obtain ⟨b20, o21, hi19, -⟩ := (H.ro 1 rfl).ix hx18
     refine st_g (v := (pt b20 o21)) (congrArg some hb16) (rv_ix Tryz.underlying37 ti24 rfl rfl hi19) ?_
     obtain ⟨v25, hc26, hR24⟩ := ((H.ro 1 rfl).at hx18 hi19).slice
     obtain ⟨a22, c23, rfl⟩ := hR24.isSl
     replace H := H.add (d := Ch.ro 0 (Sl a22 x17 c23) x17) hR24 (fun _ h => h)
     clear hR24
     refine st_g (v := (Sl a22 x17 c23)) (congrArg some hb16) (rv_load1 Tryz.underlying24 rfl rfl hc26) ?_
     revert h; refine br fun r27 hx28 h => ?_
     have hc29 := c_spec_allIn (Bi := a22) (Bj := c23) hx28
     refine st_call (cx_call hc29 (ent_f hc29.fn rfl) hn0 (H.sel' [0, 0, 1, 2] rfl rfl : Hp S0 σ0 _ ([_] ++ _))) (wanted_yes rfl (by exact (congrArg some hb16))) ?_
     rintro _ σ30 ⟨_, ⟨rfl, rfl⟩, H, -⟩
     replace H : Hp _ _ _ [_, _, _] := H
     refine st_g (v := (B (!r27))) (congrArg some hb16) (rv_not rfl) (st (v := (B (!r27))) (rv_pick_f (congrArg B hb16) rfl) (w_end ?_))
     obtain rfl := sj h
     exact ⟨rfl, _, σ30, fr_join ⟨rfl, rfl, rfl, trivial⟩, rfl, H.sel' [2] rfl rfl⟩
   ·clear hj
    have h := h'
    clear h' H
    rintro e a w ⟨rfl, ρ, σ31, rfl, rfl, H⟩
    refine q_then ?_
    refine cd_cond o5 rfl (fun hb32 => ?_) (fun hb32 => ?_)
    ·replace h := bif_t hb32 h
     refine c_seq (rg (sa (B false) rfl (w_end (q_then (c_ret (q_blk_r (q_then_r (q_then_r (q_blk_r ?_)))))))))
     obtain rfl := sj h
     obtain rfl := hres _ rfl
     exact .inr (⟨_, rfl, rfl, _, σ31, fr_join ⟨rfl, trivial⟩, rfl, H.sel' [] rfl rfl⟩)
    ·replace h := bif_f hb32 h
     refine c_skip (q_blk (q_then (rg (sm (I s2) rfl (st (v := (I (w64 (s2 + 1)))) (rv_add (a := s2) (b := 1) rfl rfl) (sa (I (w64 (s2 + 1))) rfl (w_end (q_then ?_))))))))
     obtain rfl := sj h
     exact ⟨_, rfl, _, σ31, fr_join ⟨rfl, rfl, trivial⟩, rfl, H.sel' [0] rfl rfl⟩
  ·replace h := bif_f hb4 h
   refine c_exit (q_then_x (q_then_x (q_blk_hit ?_)))
   obtain rfl := sj h
   obtain rfl := hres _ rfl
   exact .inl ⟨_, rfl, rfl, _, σ3, fr_join trivial, rfl, H.sel' [] rfl rfl⟩
 ·clear hj
  have h := h'
  clear h' H
  rintro e a w (⟨t33, rfl, rfl, ρ, σ34, rfl, rfl, H⟩ | ⟨t35, rfl, rfl, ρ, σ36, rfl, rfl, H⟩)
  ·replace h := selim_l h
   refine q_then (c_seq (rg (sa (B true) rfl (w_end (q_then (c_ret ?_))))))
   obtain rfl := sj h
   exact fin_ret (v := (B true)) (results_ok Tryz.results114 (res_tmp (v := (B true)) rfl res_nil) rfl) ⟨rfl, rfl⟩ (H.sel' [] rfl rfl)
  ·replace h := selim_r h
   refine q_then_r ?_
   obtain rfl := sj h
   exact fin_ret (v := (B t35)) (results_ok Tryz.results114 (res_tmp (v := (B t35)) rfl res_nil) rfl) ⟨rfl, rfl⟩ (H.sel' [] rfl rfl)

theorem c_spec_validBook {Cu : (List (List Int)) × (List (List Int))} {Cv : Option Addr} {Cw : Nat} {Cy : Option Addr} {Cz : Nat} {r : Bool} (h : M.spec_validBook Cu = some r) :
    Cal2 Tryz.prog 69 [(.agg #[(Sl Cv Cu.1 Cw), (Sl Cy Cu.2 Cz)])] [Ch.ro 0 (Sl Cv Cu.1 Cw) Cu.1, Ch.ro 0 (Sl Cy Cu.2 Cz) Cu.2] (fun n0 v L => v = (B r) ∧ L = []) := by
 refine cal2 (n := 23) Tryz.func69 rfl rfl rfl rfl ?_
 intro S0 σ0 n0 hn0 H
 unfold M.spec_validBook at h
 refine c_seq (rg (st_ex (ex_box (cs := [(Sl Cv Cu.1 Cw), (Sl Cy Cu.2 Cz)]) H hn0 rfl rfl) wn ?_))
 rintro _ σ2 ⟨b1, rfl, H, -⟩
 refine sa (B false) rfl (w_end (q_then (c_seq (rg (st (v := (pt b1 0)) (rv_fieldAddr (off := 0) (ft := 37) Tryz.underlying47 rfl ti37 rfl rfl) ?_)))))
 have hc3 := H.cell (u := (Sl Cv Cu.1 Cw)) (o' := 0) 0 0 rfl rfl rfl
 refine st (v := (Sl Cv Cu.1 Cw)) (rv_load1 Tryz.underlying37 rfl rfl hc3) (st (v := (I (Cu.1.length : Int))) (rv_len Tryz.underlying37 rfl) (st (v := (B ((Cu.1.length : Int) == 4))) (rv_eql (a := (Cu.1.length : Int)) (b := 4) rfl rfl) (sm (B ((Cu.1.length : Int) == 4)) rfl ?_)))
 rcases Bool.eq_false_or_eq_true ((Cu.1.length : Int) == 4) with hb4 | hb4
 ·replace h := bif_t hb4 h
  refine st_g (v := (pt b1 1)) (congrArg some hb4) (rv_fieldAddr (off := 1) (ft := 37) Tryz.underlying47 rfl ti37 rfl rfl) ?_
  have hc5 := H.cell (u := (Sl Cy Cu.2 Cz)) (o' := 1) 0 1 rfl rfl rfl
  refine st_g (v := (Sl Cy Cu.2 Cz)) (congrArg some hb4) (rv_load1 Tryz.underlying37 rfl rfl hc5) (st_g (v := (I (Cu.2.length : Int))) (congrArg some hb4) (rv_len Tryz.underlying37 rfl) (st_g (v := (B ((Cu.2.length : Int) == 4))) (congrArg some hb4) (rv_eql (a := (Cu.2.length : Int)) (b := 4) rfl rfl) (st (v := (B ((Cu.2.length : Int) == 4))) (rv_pick_t (congrArg B hb4) rfl) (sm (B ((Cu.2.length : Int) == 4)) rfl ?_))))
  rcases Bool.eq_false_or_eq_true ((Cu.2.length : Int) == 4) with hb6 | hb6
  ·replace h := bif_t hb6 h
   refine st_g (v := (pt b1 0)) (congrArg some hb6) (rv_fieldAddr (off := 0) (ft := 37) Tryz.underlying47 rfl ti37 rfl rfl) ?_
   have hc7 := H.cell (u := (Sl Cv Cu.1 Cw)) (o' := 0) 0 0 rfl rfl rfl
   refine st_g (v := (Sl Cv Cu.1 Cw)) (congrArg some hb6) (rv_load1 Tryz.underlying37 rfl rfl hc7) ?_
   revert h; refine br fun r8 hx9 h => ?_
   have hc10 := c_spec_validHalves (Bi := Cv) (Bj := Cw) hx9
   refine st_call (cx_call hc10 (ent_f hc10.fn rfl) hn0 (H.sel' [1, 0, 1, 2] rfl rfl : Hp S0 σ0 _ ([_] ++ _))) (wanted_yes rfl (by exact (congrArg some hb6))) ?_
   rintro _ σ11 ⟨_, ⟨rfl, rfl⟩, H, -⟩
   replace H : Hp _ _ _ [_, _, _] := H
   refine st (v := (B r8)) (rv_pick_t (congrArg B hb6) rfl) (sm (B r8) rfl ?_)
   rcases Bool.eq_false_or_eq_true r8 with hb12 | hb12
   ·replace h := bif_t hb12 h
    refine st_g (v := (pt b1 1)) (congrArg some hb12) (rv_fieldAddr (off := 1) (ft := 37) Tryz.underlying47 rfl ti37 rfl rfl) ?_
    have hc13 := H.cell (u := (Sl Cy Cu.2 Cz)) (o' := 1) 0 1 rfl rfl rfl
    refine st_g (v := (Sl Cy Cu.2 Cz)) (congrArg some hb12) (rv_load1 Tryz.underlying37 rfl rfl hc13) ?_
    revert h; refine br fun r14 hx15 h => ?_
    have hc16 := c_spec_validHalves (Bi := Cy) (Bj := Cz) hx15
    refine st_call (cx_call hc16 (ent_f hc16.fn rfl) hn0 (H.sel' [2, 0, 1, 2] rfl rfl : Hp S0 σ0 _ ([_] ++ _))) (wanted_yes rfl (by exact (congrArg some hb12))) ?_
    rintro _ σ17 ⟨_, ⟨rfl, rfl⟩, H, -⟩
    replace H : Hp _ _ _ [_, _, _] := H
    refine st (v := (B r14)) (rv_pick_t (congrArg B hb12) rfl) (sa (B r14) rfl (w_end (q_then (c_ret ?_))))
    obtain rfl := sj h
    exact fin_ret (v := (B r14)) (results_ok Tryz.results69 (res_tmp (v := (B r14)) rfl res_nil) rfl) ⟨rfl, rfl⟩ (H.sel' [] rfl rfl)
   ·replace h := bif_f hb12 h
    refine st_skip (congrArg some hb12) (st_skip (congrArg some hb12) (st_skip (congrArg some hb12) (st (v := (B false)) (rv_pick_f (congrArg B hb12) rfl) (sa (B false) rfl (w_end (q_then (c_ret ?_)))))))
    obtain rfl := sj h
    exact fin_ret (v := (B false)) (results_ok Tryz.results69 (res_tmp (v := (B false)) rfl res_nil) rfl) ⟨rfl, rfl⟩ (H.sel' [] rfl rfl)
  ·replace h := bif_f hb6 h
   refine st_skip (congrArg some hb6) (st_skip (congrArg some hb6) (st_skip (congrArg some hb6) (st (v := (B false)) (rv_pick_f (congrArg B hb6) rfl) (sm (B false) rfl (st_skip rfl (st_skip rfl (st_skip rfl (st (v := (B false)) (rv_pick_f rfl rfl) (sa (B false) rfl (w_end (q_then ?_)))))))))))
   refine c_ret ?_
   obtain rfl := sj h
   exact fin_ret (v := (B false)) (results_ok Tryz.results69 (res_tmp (v := (B false)) rfl res_nil) rfl) ⟨rfl, rfl⟩ (H.sel' [] rfl rfl)
 ·replace h := bif_f hb4 h
  refine st_skip (congrArg some hb4) (st_skip (congrArg some hb4) (st_skip (congrArg some hb4) (st_skip (congrArg some hb4) (st (v := (B false)) (rv_pick_f (congrArg B hb4) rfl) (sm (B false) rfl (st_skip rfl (st_skip rfl (st_skip rfl (st (v := (B false)) (rv_pick_f rfl rfl) (sm (B false) rfl (st_skip rfl ?_)))))))))))
  refine st_skip rfl (st_skip rfl (st (v := (B false)) (rv_pick_f rfl rfl) (sa (B false) rfl (w_end (q_then (c_ret ?_))))))
  obtain rfl := sj h
  exact fin_ret (v := (B false)) (results_ok Tryz.results69 (res_tmp (v := (B false)) rfl res_nil) rfl) ⟨rfl, rfl⟩ (H.sel' [] rfl rfl)

theorem c_spec_nearer {Aa : Int × Int} {Ac : Int × Int}  {r : Bool} (h : M.spec_nearer Aa Ac = some r) :
    Cal2 Tryz.prog 115 [(.agg #[(I Aa.1), (I Aa.2)]), (.agg #[(I Ac.1), (I Ac.2)])] [] (fun n0 v L => v = (B r) ∧ L = []) := by
 refine cal2 (n := 24) Tryz.func115 rfl rfl rfl rfl ?_
 intro S0 σ0 n0 hn0 H
 unfold M.spec_nearer at h
 refine c_seq (rg (st_ex (ex_box (cs := [(I Aa.1), (I Aa.2)]) H hn0 rfl rfl) wn ?_))
 rintro _ σ2 ⟨b1, rfl, H, -⟩
 refine st_ex (ex_box (cs := [(I Ac.1), (I Ac.2)]) H hn0 rfl rfl) wn ?_
 rintro _ σ4 ⟨b3, rfl, H, -⟩
 refine sa (B false) rfl (w_end (q_then (c_seq (rg (st (v := (pt b1 1)) (rv_fieldAddr (off := 1) (ft := 3) Tryz.underlying44 rfl ti3 rfl rfl) ?_)))))
 have hc5 := H.cell (u := (I Aa.2)) (o' := 1) 1 1 rfl rfl rfl
 refine st (v := (I Aa.2)) (rv_load1 Tryz.underlying3 rfl rfl hc5) (st (v := (pt b3 1)) (rv_fieldAddr (off := 1) (ft := 3) Tryz.underlying44 rfl ti3 rfl rfl) ?_)
 have hc6 := H.cell (u := (I Ac.2)) (o' := 1) 0 1 rfl rfl rfl
 refine st (v := (I Ac.2)) (rv_load1 Tryz.underlying3 rfl rfl hc6) (st (v := (B (decide (Aa.2 < Ac.2)))) (rv_lss (a := Aa.2) (b := Ac.2) rfl rfl) (sm (B (decide (Aa.2 < Ac.2))) rfl ?_))
 rcases Bool.eq_false_or_eq_true (decide (Aa.2 < Ac.2)) with hb7 | hb7
 ·replace h := bif_t hb7 h
  refine st_skip (congrArg some hb7) (st_skip (congrArg some hb7) (st_skip (congrArg some hb7) (st_skip (congrArg some hb7) (st_skip (congrArg some hb7) (st_skip (congrArg some hb7) (st_skip_u rfl (st_skip_u rfl (st_skip_u rfl (st_skip_u rfl (st_skip_u rfl (st_skip (congrArg some hb7) ?_)))))))))))
  refine st (v := (B true)) (rv_pick_t (congrArg B hb7) rfl) (sa (B true) rfl (w_end (q_then (c_ret ?_))))
  obtain rfl := sj h
  exact fin_ret (v := (B true)) (results_ok Tryz.results115 (res_tmp (v := (B true)) rfl res_nil) rfl) ⟨rfl, rfl⟩ (H.sel' [] rfl rfl)
 ·replace h := bif_f hb7 h
  refine st_g (v := (pt b1 1)) (congrArg some hb7) (rv_fieldAddr (off := 1) (ft := 3) Tryz.underlying44 rfl ti3 rfl rfl) ?_
  have hc8 := H.cell (u := (I Aa.2)) (o' := 1) 1 1 rfl rfl rfl
  refine st_g (v := (I Aa.2)) (congrArg some hb7) (rv_load1 Tryz.underlying3 rfl rfl hc8) (st_g (v := (pt b3 1)) (congrArg some hb7) (rv_fieldAddr (off := 1) (ft := 3) Tryz.underlying44 rfl ti3 rfl rfl) ?_)
  have hc9 := H.cell (u := (I Ac.2)) (o' := 1) 0 1 rfl rfl rfl
  refine st_g (v := (I Ac.2)) (congrArg some hb7) (rv_load1 Tryz.underlying3 rfl rfl hc9) (st_g (v := (B (Aa.2 == Ac.2))) (congrArg some hb7) (rv_eql (a := Aa.2) (b := Ac.2) rfl rfl) (st_g (v := (B (Aa.2 == Ac.2))) (congrArg some hb7) (rv_move rfl) ?_))
  rcases Bool.eq_false_or_eq_true (Aa.2 == Ac.2) with hb10 | hb10
  ·replace h := bif_t hb10 h
   refine st_g (v := (pt b1 0)) (congrArg some hb10) (rv_fieldAddr (off := 0) (ft := 3) Tryz.underlying44 rfl ti3 rfl rfl) ?_
   have hc11 := H.cell (u := (I Aa.1)) (o' := 0) 1 0 rfl rfl rfl
   refine st_g (v := (I Aa.1)) (congrArg some hb10) (rv_load1 Tryz.underlying3 rfl rfl hc11) (st_g (v := (pt b3 0)) (congrArg some hb10) (rv_fieldAddr (off := 0) (ft := 3) Tryz.underlying44 rfl ti3 rfl rfl) ?_)
   have hc12 := H.cell (u := (I Ac.1)) (o' := 0) 0 0 rfl rfl rfl
   refine st_g (v := (I Ac.1)) (congrArg some hb10) (rv_load1 Tryz.underlying3 rfl rfl hc12) (st_g (v := (B (decide (Aa.1 < Ac.1)))) (congrArg some hb10) (rv_lss (a := Aa.1) (b := Ac.1) rfl rfl) (st_g (v := (B (decide (Aa.1 < Ac.1)))) (congrArg some hb7) (rv_pick_t (congrArg B hb10) rfl) (st (v := (B (decide (Aa.1 < Ac.1)))) (rv_pick_f (congrArg B hb7) rfl) (sa (B (decide (Aa.1 < Ac.1))) rfl (w_end (q_then (c_ret ?_)))))))
   obtain rfl := sj h
   exact fin_ret (v := (B (decide (Aa.1 < Ac.1)))) (results_ok Tryz.results115 (res_tmp (v := (B (decide (Aa.1 < Ac.1)))) rfl res_nil) rfl) ⟨rfl, rfl⟩ (H.sel' [] rfl rfl)
  ·replace h := bif_f hb10 h
   refine st_skip (congrArg some hb10) (st_skip (congrArg some hb10) (st_skip (congrArg some hb10) (st_skip (congrArg some hb10) (st_skip (congrArg some hb10) (st_g (v := (B false)) (congrArg some hb7) (rv_pick_f (congrArg B hb10) rfl) (st (v := (B false)) (rv_pick_f (congrArg B hb7) rfl) (sa (B false) rfl (w_end (q_then (c_ret ?_))))))))))
   obtain rfl := sj h
   exact fin_ret (v := (B false)) (results_ok Tryz.results115 (res_tmp (v := (B false)) rfl res_nil) rfl) ⟨rfl, rfl⟩ (H.sel' [] rfl rfl)

end Go.Vs
