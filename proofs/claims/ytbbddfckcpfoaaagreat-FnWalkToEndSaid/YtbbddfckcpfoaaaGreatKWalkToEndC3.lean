/- The functions compute what their models say. -/
import Derived.Test.YtbbddfckcpfoaaaGreatKWalkToEndC2
set_option linter.unusedVariables false
set_option linter.unusedSimpArgs false
set_option maxRecDepth 20000
namespace Go.Vs
open Go Go.Proofs
attribute [local irreducible] Code.wp Code.wpIn wpList wpListIn wpQuiet Calls CallsIn

theorem c_slices_xorshift_Next {Ak : Int} {Aq Ar As : Nat} {Au Av : List Value} {r : Int × Int} (h : M.slices_xorshift_Next Ak = some r) :
    Cal2 Tryz.prog 199 [(pt Ar As)] [Ch.bx Aq Ar As [(.int .u64 Ak)] Au Av] (fun n0 v L => v = (.int .u64 r.1) ∧ L = [Ch.bx Aq Ar As [(.int .u64 r.2)] Au Av]) := by
 refine cal2 (n := 33) Tryz.func199 rfl rfl rfl rfl ?_
 intro S0 σ0 n0 hn0 H
 unfold M.slices_xorshift_Next at h
 refine c_seq (rg (sa (.int .u64 0) rfl (w_end (q_then (c_seq ?_)))))
 refine rgP (σ := σ0) 7 (by kernel_rfl) (by kernel_rfl) (by kernel_rfl) ?_
 refine sq (v := (pt Ar As)) (rv_move rfl) (sq (v := (pt Ar As)) (rv_nilCheck rfl) ?_)
 have hc1 := H.cell (u := (.int .u64 Ak)) (o' := As) 0 0 rfl rfl rfl
 refine sq (v := (.int .u64 Ak)) (rv_load1 Tryz.underlying190 rfl rfl hc1) (sq (v := (pt Ar As)) (rv_move rfl) (sq (v := (pt Ar As)) (rv_nilCheck rfl) ?_))
 have hc2 := H.cell (u := (.int .u64 Ak)) (o' := As) 0 0 rfl rfl rfl
 refine sq (v := (.int .u64 Ak)) (rv_load1 Tryz.underlying190 rfl rfl hc2) ?_
 refine sq (v := (.int .u64 (gshl .u64 Ak 13))) (rvk_shl (k := .u64) (k' := .u64) (a := Ak) (b := 13) rfl rfl (by decide)) ?_
 refine sq_end ?_
 intro σ3 hm4
 replace H := H.grow (hm4.mono fun _ h => h); clear hm4
 refine st (v := (.int .u64 (gxork .u64 Ak (gshl .u64 Ak 13)))) (rvk_xor (k := .u64) (a := Ak) (b := (gshl .u64 Ak 13)) rfl rfl) (st (v := (pt Ar As)) (rv_nilCheck rfl) ?_)
 refine st_exS (ex_store_box (k := 0) (cs := [(.int .u64 Ak)]) (vs := [(.int .u64 (gxork .u64 Ak (gshl .u64 Ak 13)))]) (cs' := [(.int .u64 (gxork .u64 Ak (gshl .u64 Ak 13)))]) H (i := 0) rfl ti190 rfl rfl rfl rfl rfl (Nat.le_of_ble_eq_true rfl) (by simp [plain]) rfl) wn ?_
 rintro σ5 ⟨H, -⟩
 refine w_end (q_then (c_seq ?_))
 refine rgP (σ := σ5) 7 (by kernel_rfl) (by kernel_rfl) (by kernel_rfl) ?_
 refine sq (v := (pt Ar As)) (rv_move rfl) (sq (v := (pt Ar As)) (rv_nilCheck rfl) ?_)
 have hc6 := H.cell (u := (.int .u64 (gxork .u64 Ak (gshl .u64 Ak 13)))) (o' := As) 0 0 rfl rfl rfl
 refine sq (v := (.int .u64 (gxork .u64 Ak (gshl .u64 Ak 13)))) (rv_load1 Tryz.underlying190 rfl rfl hc6) (sq (v := (pt Ar As)) (rv_move rfl) (sq (v := (pt Ar As)) (rv_nilCheck rfl) ?_))
 have hc7 := H.cell (u := (.int .u64 (gxork .u64 Ak (gshl .u64 Ak 13)))) (o' := As) 0 0 rfl rfl rfl
 refine sq (v := (.int .u64 (gxork .u64 Ak (gshl .u64 Ak 13)))) (rv_load1 Tryz.underlying190 rfl rfl hc7) ?_
 refine sq (v := (.int .u64 (gshr .u64 (gxork .u64 Ak (gshl .u64 Ak 13)) 7))) (rvk_shr (k := .u64) (k' := .u64) (a := (gxork .u64 Ak (gshl .u64 Ak 13))) (b := 7) rfl rfl (by decide)) ?_
 refine sq_end ?_
 intro σ8 hm9
 replace H := H.grow (hm9.mono fun _ h => h); clear hm9
 refine st (v := (.int .u64 (gxork .u64 (gxork .u64 Ak (gshl .u64 Ak 13)) (gshr .u64 (gxork .u64 Ak (gshl .u64 Ak 13)) 7)))) (rvk_xor (k := .u64) (a := (gxork .u64 Ak (gshl .u64 Ak 13))) (b := (gshr .u64 (gxork .u64 Ak (gshl .u64 Ak 13)) 7)) rfl rfl) (st (v := (pt Ar As)) (rv_nilCheck rfl) ?_)
 refine st_exS (ex_store_box (k := 0) (cs := [(.int .u64 (gxork .u64 Ak (gshl .u64 Ak 13)))]) (vs := [(.int .u64 (gxork .u64 (gxork .u64 Ak (gshl .u64 Ak 13)) (gshr .u64 (gxork .u64 Ak (gshl .u64 Ak 13)) 7)))]) (cs' := [(.int .u64 (gxork .u64 (gxork .u64 Ak (gshl .u64 Ak 13)) (gshr .u64 (gxork .u64 Ak (gshl .u64 Ak 13)) 7)))]) H (i := 0) rfl ti190 rfl rfl rfl rfl rfl (Nat.le_of_ble_eq_true rfl) (by simp [plain]) rfl) wn ?_
 rintro σ10 ⟨H, -⟩
 refine w_end (q_then (c_seq ?_))
 refine rgP (σ := σ10) 7 (by kernel_rfl) (by kernel_rfl) (by kernel_rfl) ?_
 refine sq (v := (pt Ar As)) (rv_move rfl) (sq (v := (pt Ar As)) (rv_nilCheck rfl) ?_)
 have hc11 := H.cell (u := (.int .u64 (gxork .u64 (gxork .u64 Ak (gshl .u64 Ak 13)) (gshr .u64 (gxork .u64 Ak (gshl .u64 Ak 13)) 7)))) (o' := As) 0 0 rfl rfl rfl
 refine sq (v := (.int .u64 (gxork .u64 (gxork .u64 Ak (gshl .u64 Ak 13)) (gshr .u64 (gxork .u64 Ak (gshl .u64 Ak 13)) 7)))) (rv_load1 Tryz.underlying190 rfl rfl hc11) (sq (v := (pt Ar As)) (rv_move rfl) (sq (v := (pt Ar As)) (rv_nilCheck rfl) ?_))
 have hc12 := H.cell (u := (.int .u64 (gxork .u64 (gxork .u64 Ak (gshl .u64 Ak 13)) (gshr .u64 (gxork .u64 Ak (gshl .u64 Ak 13)) 7)))) (o' := As) 0 0 rfl rfl rfl
 refine sq (v := (.int .u64 (gxork .u64 (gxork .u64 Ak (gshl .u64 Ak 13)) (gshr .u64 (gxork .u64 Ak (gshl .u64 Ak 13)) 7)))) (rv_load1 Tryz.underlying190 rfl rfl hc12) ?_
 refine sq (v := (.int .u64 (gshl .u64 (gxork .u64 (gxork .u64 Ak (gshl .u64 Ak 13)) (gshr .u64 (gxork .u64 Ak (gshl .u64 Ak 13)) 7)) 17))) (rvk_shl (k := .u64) (k' := .u64) (a := (gxork .u64 (gxork .u64 Ak (gshl .u64 Ak 13)) (gshr .u64 (gxork .u64 Ak (gshl .u64 Ak 13)) 7))) (b := 17) rfl rfl (by decide)) ?_
 refine sq_end ?_
 intro σ13 hm14
 replace H := H.grow (hm14.mono fun _ h => h); clear hm14
 refine st (v := (.int .u64 (gxork .u64 (gxork .u64 (gxork .u64 Ak (gshl .u64 Ak 13)) (gshr .u64 (gxork .u64 Ak (gshl .u64 Ak 13)) 7)) (gshl .u64 (gxork .u64 (gxork .u64 Ak (gshl .u64 Ak 13)) (gshr .u64 (gxork .u64 Ak (gshl .u64 Ak 13)) 7)) 17)))) (rvk_xor (k := .u64) (a := (gxork .u64 (gxork .u64 Ak (gshl .u64 Ak 13)) (gshr .u64 (gxork .u64 Ak (gshl .u64 Ak 13)) 7))) (b := (gshl .u64 (gxork .u64 (gxork .u64 Ak (gshl .u64 Ak 13)) (gshr .u64 (gxork .u64 Ak (gshl .u64 Ak 13)) 7)) 17)) rfl rfl) (st (v := (pt Ar As)) (rv_nilCheck rfl) ?_)
 refine st_exS (ex_store_box (k := 0) (cs := [(.int .u64 (gxork .u64 (gxork .u64 Ak (gshl .u64 Ak 13)) (gshr .u64 (gxork .u64 Ak (gshl .u64 Ak 13)) 7)))]) (vs := [(.int .u64 (gxork .u64 (gxork .u64 (gxork .u64 Ak (gshl .u64 Ak 13)) (gshr .u64 (gxork .u64 Ak (gshl .u64 Ak 13)) 7)) (gshl .u64 (gxork .u64 (gxork .u64 Ak (gshl .u64 Ak 13)) (gshr .u64 (gxork .u64 Ak (gshl .u64 Ak 13)) 7)) 17)))]) (cs' := [(.int .u64 (gxork .u64 (gxork .u64 (gxork .u64 Ak (gshl .u64 Ak 13)) (gshr .u64 (gxork .u64 Ak (gshl .u64 Ak 13)) 7)) (gshl .u64 (gxork .u64 (gxork .u64 Ak (gshl .u64 Ak 13)) (gshr .u64 (gxork .u64 Ak (gshl .u64 Ak 13)) 7)) 17)))]) H (i := 0) rfl ti190 rfl rfl rfl rfl rfl (Nat.le_of_ble_eq_true rfl) (by simp [plain]) rfl) wn ?_
 rintro σ15 ⟨H, -⟩
 refine w_end (q_then (c_seq (rg (sm (pt Ar As) rfl (st (v := (pt Ar As)) (rv_nilCheck rfl) ?_)))))
 have hc16 := H.cell (u := (.int .u64 (gxork .u64 (gxork .u64 (gxork .u64 Ak (gshl .u64 Ak 13)) (gshr .u64 (gxork .u64 Ak (gshl .u64 Ak 13)) 7)) (gshl .u64 (gxork .u64 (gxork .u64 Ak (gshl .u64 Ak 13)) (gshr .u64 (gxork .u64 Ak (gshl .u64 Ak 13)) 7)) 17)))) (o' := As) 0 0 rfl rfl rfl
 refine st (v := (.int .u64 (gxork .u64 (gxork .u64 (gxork .u64 Ak (gshl .u64 Ak 13)) (gshr .u64 (gxork .u64 Ak (gshl .u64 Ak 13)) 7)) (gshl .u64 (gxork .u64 (gxork .u64 Ak (gshl .u64 Ak 13)) (gshr .u64 (gxork .u64 Ak (gshl .u64 Ak 13)) 7)) 17)))) (rv_load1 Tryz.underlying190 rfl rfl hc16) (sa (.int .u64 (gxork .u64 (gxork .u64 (gxork .u64 Ak (gshl .u64 Ak 13)) (gshr .u64 (gxork .u64 Ak (gshl .u64 Ak 13)) 7)) (gshl .u64 (gxork .u64 (gxork .u64 Ak (gshl .u64 Ak 13)) (gshr .u64 (gxork .u64 Ak (gshl .u64 Ak 13)) 7)) 17))) rfl (w_end (q_then (c_ret ?_))))
 obtain rfl := sj h
 exact fin_ret (v := (.int .u64 (gxork .u64 (gxork .u64 (gxork .u64 Ak (gshl .u64 Ak 13)) (gshr .u64 (gxork .u64 Ak (gshl .u64 Ak 13)) 7)) (gshl .u64 (gxork .u64 (gxork .u64 Ak (gshl .u64 Ak 13)) (gshr .u64 (gxork .u64 Ak (gshl .u64 Ak 13)) 7)) 17)))) (results_ok Tryz.results199 (res_tmp (v := (.int .u64 (gxork .u64 (gxork .u64 (gxork .u64 Ak (gshl .u64 Ak 13)) (gshr .u64 (gxork .u64 Ak (gshl .u64 Ak 13)) 7)) (gshl .u64 (gxork .u64 (gxork .u64 Ak (gshl .u64 Ak 13)) (gshr .u64 (gxork .u64 Ak (gshl .u64 Ak 13)) 7)) 17)))) rfl res_nil) rfl) ⟨rfl, rfl⟩ (H.sel' [0] rfl rfl)

theorem c_slices_Values_impl_hitHeap_impl_Hit {Ct : List (Int × Int)} {Cu : Option Addr} {Cv : Nat} {r : Unit} (h : M.slices_Values_impl_hitHeap_impl_Hit Ct = some r) :
    Cal2 Tryz.prog 163 [(Sl Cu Ct Cv)] [Ch.ro 0 (Sl Cu Ct Cv) Ct] (fun n0 v L => ∃ (bz1 : Nat), v = (.func (.func 193) #[] #[(pt bz1 0)]) ∧ L = [Ch.bx n0 bz1 0 [(Sl Cu Ct Cv)] [] []]) := by
 refine cal2 (n := 4) Tryz.func163 rfl rfl rfl rfl ?_
 intro S0 σ0 n0 hn0 H
 unfold M.slices_Values_impl_hitHeap_impl_Hit at h
 refine c_seq (rg (st_ex (ex_box (cs := [(Sl Cu Ct Cv)]) H hn0 rfl rfl) wn ?_))
 rintro _ σ2 ⟨b1, rfl, H, -⟩
 refine sa (.nilFunc) rfl (w_end (q_then (c_seq (rg (st (v := (.func (.func 193) #[] #[(pt b1 0)])) (rv_makeFunc (vs := [(pt b1 0)]) rfl) (sa (.func (.func 193) #[] #[(pt b1 0)]) rfl (w_end (q_then (c_ret ?_)))))))))
 obtain rfl := sj h
 exact fin_ret (v := (.func (.func 193) #[] #[(pt b1 0)])) (results_ok Tryz.results163 (res_tmp (v := (.func (.func 193) #[] #[(pt b1 0)])) rfl res_nil) rfl) ⟨b1, rfl, rfl⟩ (H.sel' [0] rfl rfl)

theorem it_slices_AppendSeq_impl_Hit_impl_Hit__slices_Values_impl_hitHeap_impl_Hit_1 {b o c l : Nat} {a : Option Addr} {xs : List (Int × Int)} {J : Nat → St → Prop} (hst : ∀ {i σ σ'}, J i σ → Md (fun _ => False) σ σ' → J i σ')
    (hbx : ∀ {i σ}, J i σ → HCell σ.w.heap b o = some (Sl a xs c) ∧ Rd 0 σ (Sl a xs c) xs) (hn : xs.length ≤ 2147483648)
    (hy : ∀ i, (h : i < xs.length) → ∀ σ, J i σ → YieldAt Fence.wide 0 Tryz.prog l [(.agg #[(I (xs[i]).1), (I (xs[i]).2)])].toArray σ.w fun e W' => e = .returned (.bool true) ∧ ∃ σ', W' = σ'.w ∧ J (i + 1) σ')
    (σ : St) (h0 : J 0 σ) : CallsIn Fence.wide 0 Tryz.prog 193 [.func (.yield l) #[] #[], (pt b o)].toArray σ.w fun e W' => (∃ v, e = .returned v) ∧ ∃ σ', W' = σ'.w ∧ J xs.length σ' := by
  refine enterI (n := 16) Tryz.func193 rfl rfl rfl ?_
  refine wpIn_seq ?_
  obtain ⟨hc, -⟩ := hbx h0
  refine rgI ?_
  refine stI nofun (v := (Sl a xs c)) (rv_load1 Tryz.underlying132 rfl rfl hc) ?_
  refine stI nofun (v := (I (xs.length : Int))) (rv_len Tryz.underlying132 rfl) ?_
  refine stI nofun (v := (I 0)) (rv_move rfl) ?_
  refine endI ?_
  refine q_then (wpIn_block ?_)
  refine wpIn_loop_ghost (fun k a' w' => ∃ i ρ σ, i + k = xs.length ∧ a' = fr 16 (updL ρ [(0, .func (.yield l) #[] #[]), (1, pt b o), (5, Sl a xs c), (6, I (xs.length : Int)), (7, I (i : Int))]) ∧ w' = σ.w ∧ J i σ) xs.length ⟨0, _, σ, by omega, fr_join ⟨rfl, rfl, rfl, rfl, rfl, trivial⟩, rfl, h0⟩ ?_
  clear hc h0
  rintro k _ _ ⟨i, ρ, σ, hik, rfl, rfl, hJ⟩
  refine wpIn_seq ?_
  refine rgI ?_
  refine stI nofun (v := (B (decide ((i : Int) < (xs.length : Int))))) (rv_lss (a := (i : Int)) (b := (xs.length : Int)) rfl rfl) ?_
  refine endI ?_
  refine q_then (wpIn_seq ?_)
  refine cdI_cond (decide ((i : Int) < (xs.length : Int))) rfl (fun hb => ?_) (fun hb => ?_)
  · have hlt : i < xs.length := by have := of_decide_eq_true hb; omega
    refine wpIn_skip ?_
    refine q_then (wpIn_seq ?_)
    refine wpIn_block ?_
    refine wpIn_seq ?_
    refine rgI ?_
    have hg : gidx xs (i : Int) = some xs[i] := gidx_at hlt
    obtain ⟨-, hR⟩ := hbx hJ
    obtain ⟨bx, ox, hi, hat⟩ := hR.ix hg
    obtain ⟨_, ⟨_, _, rfl, rfl, rfl⟩, hl, hcx⟩ := hat.cells
    refine stI nofun (v := (pt bx ox)) (rv_ix Tryz.underlying132 ti43 rfl rfl hi) ?_
    refine stI nofun (v := (.agg #[(I (xs[i]).1), (I (xs[i]).2)])) (rv_load (cs := [(I (xs[i]).1), (I (xs[i]).2)]) Tryz.underlying43 rfl ti43 rfl hl hcx) ?_
    have H : Hp (cov []) σ σ [] := Hp.begin trivial trivial
    refine stI_ex nofun (ex_alloc (lo := 0) H (Nat.zero_le _) ti43 rfl) ?_
    rintro _ σ2 ⟨b4, rfl, H, -⟩
    refine stI_exS nofun (ex_store_box (vs := [(I (xs[i]).1), (I (xs[i]).2)]) (k := 0) H (i := 0) rfl ti43 rfl rfl rfl rfl rfl (Nat.le_of_ble_eq_true rfl) (by simp [plain]) rfl) ?_
    rintro σ3 ⟨H, -⟩
    refine endI ?_
    refine q_then (wpIn_seq ?_)
    refine rgI ?_
    refine stI nofun (v := (.func (.yield l) #[] #[])) (rv_move rfl) ?_
    have hc4 := H.cells 0 rfl
    refine stI nofun (v := (.agg #[(I (xs[i]).1), (I (xs[i]).2)])) (rv_load (cs := [(I (xs[i]).1), (I (xs[i]).2)]) Tryz.underlying43 rfl ti43 rfl rfl hc4) ?_
    refine stI_yield (args := [(.agg #[(I (xs[i]).1), (I (xs[i]).2)])]) rfl rfl (hy i hlt σ3 (hst hJ H.md)) ?_
    rintro e w' ⟨rfl, σ4, rfl, hJ4⟩
    refine ⟨_, rfl, ?_⟩
    refine stI nofun (v := (B (!true))) (rv_not rfl) ?_
    refine endI ?_
    refine q_then ?_
    refine cdI_cond false rfl (fun hb => by cases hb) (fun _ => ?_)
    refine wpIn_skip ?_
    refine q_blk (q_then (rgI ?_))
    refine stI nofun (v := (I (w64 ((i : Int) + 1)))) (rv_add (a := (i : Int)) (b := 1) rfl rfl) ?_
    refine stI nofun (v := (I (w64 ((i : Int) + 1)))) (rv_move rfl) ?_
    refine endI ?_
    have e1 : w64 ((i : Int) + 1) = ((i + 1 : Nat) : Int) := w64_id (by omega) (by omega)
    rw [e1]
    refine q_then ?_
    exact ⟨k - 1, by omega, i + 1, _, σ4, by omega, fr_join ⟨rfl, rfl, rfl, rfl, rfl, trivial⟩, rfl, hJ4⟩
  · have hlt : ¬ i < xs.length := by have := of_decide_eq_false hb; omega
    have : i = xs.length := by omega
    subst this
    refine wpIn_exit ?_
    refine q_then_x (q_then_x (q_blk_hit ?_))
    exact fin_plain' (v := .tuple #[]) (results_ok Tryz.results193 res_nil rfl) ⟨⟨_, rfl⟩, σ, rfl, hJ⟩
theorem c_slices_AppendSeq_impl_Hit_impl_Hit__slices_Values_impl_hitHeap_impl_Hit_1 {Cw : List (Int × Int)} {Cy : Option Addr} {Cz : Nat} {Da Db Dc : Nat} {Dd De : List Value} {r : List (Int × Int)} (h : M.slices_AppendSeq_impl_Hit_impl_Hit__slices_Values_impl_hitHeap_impl_Hit_1 Cw = some r) :
    Cal2 Tryz.prog 202 [.slice none 0 0, (.func (.func 193) #[] #[(pt Db Dc)])] [Ch.bx Da Db Dc [(Sl Cy Cw Cz)] Dd De, Ch.ro 0 (Sl Cy Cw Cz) Cw] (fun n0 v L => ∃ (az1 : Option Addr), ∃ (cz2 : Nat), v = (Sl az1 r cz2) ∧ L = [Ch.own n0 n0 (Sl az1 r cz2) r, Ch.bx Da Db Dc [(Sl Cy Cw Cz)] Dd De]) := by
  obtain ⟨hn, rfl⟩ := coll_some (show M.coll Cw = some r from h)
  refine ⟨⟨_, _, Tryz.func202, rfl, rfl⟩, fun σ0 n0 hn0 H => ?_⟩
  refine callsIn_wide.1 (enterI (n := 13) Tryz.func202 rfl rfl rfl ?_)
  refine wpIn_seq ?_
  refine rgI ?_
  refine stI_ex nofun (ex_box (cs := [.slice none 0 0]) H hn0 rfl rfl) ?_
  rintro _ σ1 ⟨b1, rfl, H, -⟩
  refine stI nofun (v := (.slice none 0 0)) (rv_assign rfl) ?_
  refine endI ?_
  refine q_then (wpIn_seq ?_)
  refine wpIn_seq ?_
  refine rgI ?_
  refine stI nofun (v := (.func (.func 193) #[] #[(pt Db Dc)])) (rv_move rfl) ?_
  refine endI ?_
  refine q_then (wpIn_block ?_)
  replace H := H.nilOwn (Int × Int) n0 n0
  refine wp_rangeF (gf := 193) (lb := #[(pt Db Dc)]) (N := r.length) (encs := fun i => [(.agg #[(I (r.getD i (0, 0)).1), (I (r.getD i (0, 0)).2)])].toArray) (by rw [fr_eval]; rfl) (eg_of ⟨_, _, Tryz.func193, rfl, rfl⟩) (fun _ _ => rfl)
    (fun i L => ∃ a' c', L = [Ch.own n0 n0 (Sl a' (r.take i) c') (r.take i), Ch.bx n0 b1 0 [(Sl a' (r.take i) c')] [] [], Ch.bx Da Db Dc [(Sl Cy r Cz)] Dd De, Ch.ro 0 (Sl Cy r Cz) r]) ⟨none, 0, rfl⟩ H ?_ ?_ ?_
  · intro l J hst hJ hy σ h0
    refine it_slices_AppendSeq_impl_Hit_impl_Hit__slices_Values_impl_hitHeap_impl_Hit_1 (J := J) (a := Cy) (c := Cz) hst (fun {i σ} h => ?_) hn (fun i hi σ h => ?_) σ h0
    · obtain ⟨L, R, ⟨a', c', rfl⟩, H⟩ := hJ h
      have H2 := H.drop R
      exact ⟨H2.cells 2 rfl 0 (by simp), (H2.ro 3 rfl).rd⟩
    · have := hy i hi σ h
      simpa [List.getD, hi] using this
  · rintro l D i rc rc' hi σ _ ⟨a', c', rfl⟩ H
    have hgd : r.getD i (0, 0) = r[i] := by simp [List.getD, hi]
    simp only [hgd]
    rw [round_fr]
    refine rgI ?_
    refine stI_ex nofun (ex_alloc (lo := n0) H hn0 ti43 rfl) ?_
    rintro _ σ2 ⟨b5, rfl, H, -⟩
    refine stI_exS nofun (ex_store_box (vs := [(I (r[i]).1), (I (r[i]).2)]) (cs' := [(I (r[i]).1), (I (r[i]).2)]) (k := 0) H (i := 0) rfl ti43 rfl rfl rfl rfl rfl (Nat.le_of_ble_eq_true rfl) (by simp [plain]) rfl) ?_
    rintro σ3 ⟨H, -⟩
    refine endI ?_
    refine q_then ?_
    refine ⟨σ3, _, rfl, H.sel' [1, 2, 0, 3, 4, 5, 6] rfl rfl, ?_⟩
    clear H
    intro σ4 H
    refine wpIn_block ?_
    refine rgI ?_
    have hc1 := H.cells 4 rfl
    refine stI nofun (v := (Sl a' (r.take i) c')) (rv_load1 Tryz.underlying30 rfl rfl (hc1 0 (by simp))) ?_
    have hc5 := H.cells 2 rfl
    refine stI nofun (v := (.agg #[(I (r[i]).1), (I (r[i]).2)])) (rv_load (cs := [(I (r[i]).1), (I (r[i]).2)]) Tryz.underlying43 rfl ti43 rfl rfl hc5) ?_
    refine stI_ex nofun (ex_buildSlice (lo := n0) (el := n0) (xs := ([((r[i]).1, (r[i]).2)] : List (Int × Int))) (ps := [(0, (.agg #[(I (r[i]).1), (I (r[i]).2)]))]) (cs := [(I (r[i]).1), (I (r[i]).2)]) H hn0 Tryz.underlying30 ti43 rfl rfl (by kernel_rfl) (.cons (c := [(I (r[i]).1), (I (r[i]).2)]) ⟨_, _, rfl, rfl, rfl⟩ .nil) rfl) ?_
    rintro _ σ5 ⟨b10, rfl, H, -⟩
    refine stI_ex nofun (ex_append H (i := 4) rfl Tryz.underlying30 Tryz.underlying30 ti43 rfl rfl (by decide) (H.own 0 rfl).rd (take_gapp hi hn) hn0 rfl rfl) ?_
    rintro _ σ6 ⟨a2, c2, rfl, H, -⟩
    refine stI_exS nofun (ex_store_box (vs := [(Sl a2 (r.take (i + 1)) c2)]) (cs' := [(Sl a2 (r.take (i + 1)) c2)]) (k := 0) H (i := 5) rfl ti30 rfl rfl rfl rfl rfl (Nat.le_of_ble_eq_true rfl) (by simp [plain, Sl]) rfl) ?_
    rintro σ7 ⟨H, -⟩
    refine endI ?_
    refine q_blk ?_
    exact ⟨rfl, σ7, _, rfl, ⟨a2, c2, rfl⟩, H.sel' [3, 4, 1, 0, 6, 7] rfl rfl⟩
  · rintro D σ _ ⟨a', c', rfl⟩ H
    rw [List.take_length] at H
    refine q_blk (q_then (wpIn_seq ?_))
    refine rgD (ds := [{ target := .collected D, args := #[] }]) ?_
    have hc1 := H.cells 2 rfl
    refine stD nofun (v := (Sl a' r c')) (rv_load1 Tryz.underlying30 rfl rfl (hc1 0 (by simp))) ?_
    refine stD nofun (v := (Sl a' r c')) (rv_assign rfl) ?_
    refine endD ?_
    refine q_then (wpIn_ret ?_)
    exact fin_mark (v := Sl a' r c') H (results_ok Tryz.results202 (res_tmp (v := Sl a' r c') rfl res_nil) rfl) ⟨_, _, _, rfl, rfl, ⟨a', c', rfl, rfl⟩, (H.putDf _).sel' [0, 2] rfl rfl⟩

theorem c_slices_Collect_impl_Hit__slices_Values_impl_hitHeap_impl_Hit_1 {Dg : List (Int × Int)} {Dh : Option Addr} {Di : Nat} {Dj Dk Dm : Nat} {Dn Do : List Value} {r : (List (Int × Int))} (h : M.slices_Collect_impl_Hit__slices_Values_impl_hitHeap_impl_Hit_1 Dg = some r) :
    Cal2 Tryz.prog 191 [(.func (.func 193) #[] #[(pt Dk Dm)])] [Ch.bx Dj Dk Dm [(Sl Dh Dg Di)] Dn Do, Ch.ro 0 (Sl Dh Dg Di) Dg] (fun n0 v L => ∃ (az1 : Option Addr), ∃ (cz2 : Nat), v = (Sl az1 r cz2) ∧ L = [Ch.own n0 n0 (Sl az1 r cz2) r, Ch.bx Dj Dk Dm [(Sl Dh Dg Di)] Dn Do]) := by
 refine cal2 (n := 5) Tryz.func191 rfl rfl rfl rfl ?_
 intro S0 σ0 n0 hn0 H
 unfold M.slices_Collect_impl_Hit__slices_Values_impl_hitHeap_impl_Hit_1 at h
 refine c_seq (rg (sa (.slice none 0 0) rfl (w_end (q_then (c_seq (rg (sm (.func (.func 193) #[] #[(pt Dk Dm)]) rfl ?_)))))))
 revert h; refine br fun r1 hx2 h => ?_
 have hc3 := c_slices_AppendSeq_impl_Hit_impl_Hit__slices_Values_impl_hitHeap_impl_Hit_1 (Da := Dj) (Db := Dk) (Dc := Dm) (Dd := Dn) (De := Do) (Cy := Dh) (Cz := Di) hx2
 refine st_call (cx_call hc3 (ent_f hc3.fn rfl) hn0 (H.sel' [0, 1, 1] rfl rfl : Hp S0 σ0 _ ([_, _] ++ _))) wn ?_
 rintro _ σ6 ⟨_, ⟨a4, c5, rfl, rfl⟩, H, -⟩
 replace H : Hp _ _ _ [_, _, _] := H
 refine sa (Sl a4 r1 c5) rfl (w_end (q_then (c_ret ?_)))
 obtain rfl := sj h
 exact fin_ret (v := (Sl a4 r1 c5)) (results_ok Tryz.results191 (res_tmp (v := (Sl a4 r1 c5)) rfl res_nil) rfl) ⟨a4, c5, rfl, rfl⟩ (H.sel' [0, 1] rfl rfl)

def sort192_ren : Go.Shelf.Ren := ⟨fun | 6 => 192 | 15 => 149 | 14 => 203 | 28 => 186 | 29 => 187 | 20 => 213 | 21 => 214 | 22 => 215 | 23 => 216 | 24 => 217 | 25 => 218 | 26 => 219 | 27 => 220 | 46 => 224 | 47 => 198 | 48 => 199 | 49 => 225 | 50 => 226 | 57 => 228 | n => n, fun | 22 => 30 | 24 => 43 | 25 => 119 | 3 => 3 | 39 => 150 | 0 => 0 | 53 => 176 | 55 => 178 | 4 => 4 | 46 => 170 | 45 => 169 | 50 => 113 | 5 => 5 | 9 => 9 | 66 => 190 | 70 => 194 | 76 => 203 | 77 => 204 | n => n, fun | n => n⟩
theorem sort192 : Go.Proofs.SlLaysF0.n6 Tryz.prog sort192_ren := {
  mixed := by kernel_rfl
  f6 := ⟨Tryz.f192.name, by decide, Tryz.func192.trans (congrArg some (by kernel_rfl))⟩
  f14 := ⟨Tryz.f203.name, by decide, Tryz.func203.trans (congrArg some (by kernel_rfl))⟩
  f15 := Tryz.func149.trans (congrArg some (by kernel_rfl))
  f20 := ⟨Tryz.f213.name, by decide, Tryz.func213.trans (congrArg some (by kernel_rfl))⟩
  f21 := ⟨Tryz.f214.name, by decide, Tryz.func214.trans (congrArg some (by kernel_rfl))⟩
  f22 := ⟨Tryz.f215.name, by decide, Tryz.func215.trans (congrArg some (by kernel_rfl))⟩
  f23 := ⟨Tryz.f216.name, by decide, Tryz.func216.trans (congrArg some (by kernel_rfl))⟩
  f24 := ⟨Tryz.f217.name, by decide, Tryz.func217.trans (congrArg some (by kernel_rfl))⟩
  f25 := ⟨Tryz.f218.name, by decide, Tryz.func218.trans (congrArg some (by kernel_rfl))⟩
  f26 := ⟨Tryz.f219.name, by decide, Tryz.func219.trans (congrArg some (by kernel_rfl))⟩
  f27 := ⟨Tryz.f220.name, by decide, Tryz.func220.trans (congrArg some (by kernel_rfl))⟩
  f28 := Tryz.func186.trans (congrArg some (by kernel_rfl))
  f29 := Tryz.func187.trans (congrArg some (by kernel_rfl))
  f46 := ⟨Tryz.f224.name, by decide, Tryz.func224.trans (congrArg some (by kernel_rfl))⟩
  f47 := Tryz.func198.trans (congrArg some (by kernel_rfl))
  f48 := Tryz.func199.trans (congrArg some (by kernel_rfl))
  f49 := ⟨Tryz.f225.name, by decide, Tryz.func225.trans (congrArg some (by kernel_rfl))⟩
  f50 := ⟨Tryz.f226.name, by decide, Tryz.func226.trans (congrArg some (by kernel_rfl))⟩
  f57 := ⟨Tryz.f228.name, by decide, Tryz.func228.trans (congrArg some (by kernel_rfl))⟩
  t0 := Tryz.underlying0
  a0 := Tryz.isAgg0
  z0 := Tryz.sizeOf0
  v0 := Tryz.zeroValue0
  t3 := Tryz.underlying3
  a3 := Tryz.isAgg3
  z3 := Tryz.sizeOf3
  v3 := Tryz.zeroValue3
  t4 := Tryz.underlying4
  a4 := Tryz.isAgg4
  z4 := Tryz.sizeOf4
  v4 := Tryz.zeroValue4
  t5 := Tryz.underlying5
  a5 := Tryz.isAgg5
  z5 := Tryz.sizeOf5
  v5 := Tryz.zeroValue5
  t9 := Tryz.underlying9
  a9 := Tryz.isAgg9
  z9 := Tryz.sizeOf9
  v9 := Tryz.zeroValue9
  t22 := Tryz.underlying30
  a22 := Tryz.isAgg30
  z22 := Tryz.sizeOf30
  v22 := Tryz.zeroValue30
  t25 := Tryz.underlying119
  a25 := Tryz.isAgg119
  z25 := Tryz.sizeOf119
  v25 := Tryz.zeroValue119
  t39 := Tryz.underlying150
  a39 := Tryz.isAgg150
  z39 := Tryz.sizeOf150
  v39 := Tryz.zeroValue150
  t45 := Tryz.underlying169
  a45 := Tryz.isAgg169
  z45 := Tryz.sizeOf169
  v45 := Tryz.zeroValue169
  t46 := Tryz.underlying170
  a46 := Tryz.isAgg170
  z46 := Tryz.sizeOf170
  v46 := Tryz.zeroValue170
  t50 := Tryz.underlying113
  a50 := Tryz.isAgg113
  z50 := Tryz.sizeOf113
  v50 := Tryz.zeroValue113
  t53 := Tryz.underlying176
  a53 := Tryz.isAgg176
  z53 := Tryz.sizeOf176
  v53 := Tryz.zeroValue176
  t55 := Tryz.underlying178
  a55 := Tryz.isAgg178
  z55 := Tryz.sizeOf178
  v55 := Tryz.zeroValue178
  t66 := Tryz.underlying190
  a66 := Tryz.isAgg190
  z66 := Tryz.sizeOf190
  v66 := Tryz.zeroValue190
  t70 := Tryz.underlying194
  a70 := Tryz.isAgg194
  z70 := Tryz.sizeOf194
  v70 := Tryz.zeroValue194
  t76 := Tryz.underlying203
  a76 := Tryz.isAgg203
  z76 := Tryz.sizeOf203
  v76 := Tryz.zeroValue203
  t77 := Tryz.underlying204
  a77 := Tryz.isAgg204
  z77 := Tryz.sizeOf204
  v77 := Tryz.zeroValue204 }

theorem c_slices_SortFunc_impl_Hit_impl_Hit__impl_compareHits {Bj : List (Int × Int)} {Dq : Option Addr} {Dr : Nat} {r : List (Int × Int)} (h : M.slices_SortFunc_impl_Hit_impl_Hit__impl_compareHits Bj = some r) :
    Cal2 Tryz.prog 192 [(Sl Dq Bj Dr), (.func (.func 98) #[] #[])] [Ch.own 0 0 (Sl Dq Bj Dr) Bj] (fun n0 v L => v = (.tuple #[]) ∧ L = [Ch.own 0 0 (Sl Dq r Dr) r] ∧ r.length = Bj.length) := by
 obtain ⟨hn, hs, hL, rfl⟩ := sortD_some h
 have hE : ∀ σ σ' : St, Ext σ σ' → (True) → (True) := fun _ _ _ hp => hp
 have hB : ∀ σ : St, allAs σ [] → apart [] → ∃ σp, Pb (cov []) σ σp ∧ True := fun σ _ _ => ⟨σ, ⟨rfl, fun _ _ => rfl, fun _ => Nat.le_refl _⟩, trivial⟩
 have hC : ∀ σ : St, (True) → ∀ x ∈ Bj, ∀ y ∈ Bj, ∀ cx cy, Rp.rp 0 σ cx x → Rp.rp 0 σ cy y → Calls Tryz.prog 98 ([Value.agg cx.toArray, Value.agg cy.toArray] ++ []).toArray σ.w fun e w' => e = .returned (I ((M.impl_compareHits (x.1, x.2) (y.1, y.2)).getD 0)) ∧ ∃ q os, w' = Go.Sort.grow (σ.w.drewN q) os := by
     intro σ hp x hx y hy cx cy rx ry
     obtain ⟨r, hr⟩ := hs x hx y hy
     obtain ⟨_, _, rfl, rfl, rfl⟩ := rx
     obtain ⟨_, _, rfl, rfl, rfl⟩ := ry
     have hc := c_impl_compareHits  hr
     refine (hc.runs σ 0 (Nat.zero_le _) (Hp.begin trivial trivial)).mono ?_
     rintro e w' ⟨v, σ', L', rfl, rfl, ⟨rfl, -⟩, H⟩
     exact ⟨by rw [hr]; rfl, (H.md.mono fun i => fun h => h).grown⟩
 refine (sort_cal2 (α := (Int × Int)) sort192 Tryz.isAgg43 Tryz.sizeOf43 (xs := Bj) (a := Dq) (c := Dr) (g := 98) (cb := []) (B := []) (fun x y => (M.impl_compareHits (x.1, x.2) (y.1, y.2)).getD 0) hL hn ⟨_, _, Tryz.func98, rfl, rfl⟩ _ hE hB hC).conv ?_
 rintro m v L ⟨rfl, rfl⟩
 exact ⟨_, ⟨rfl, rfl, sortL_len⟩, fun H => H.sel' [0] rfl rfl⟩

theorem c_slices_SortedFunc_impl_Hit__slices_Values_impl_hitHeap_impl_Hit_1__impl_compareHits {Dg : List (Int × Int)} {Dh : Option Addr} {Di : Nat} {Dj Dk Dm : Nat} {Dn Do : List Value} {r : (List (Int × Int))} (h : M.slices_SortedFunc_impl_Hit__slices_Values_impl_hitHeap_impl_Hit_1__impl_compareHits Dg = some r) :
    Cal2 Tryz.prog 162 [(.func (.func 193) #[] #[(pt Dk Dm)]), (.func (.func 98) #[] #[])] [Ch.bx Dj Dk Dm [(Sl Dh Dg Di)] Dn Do, Ch.ro 0 (Sl Dh Dg Di) Dg] (fun n0 v L => ∃ (az1 : Option Addr), ∃ (cz2 : Nat), v = (Sl az1 r cz2) ∧ L = [Ch.own 0 n0 (Sl az1 r cz2) r, Ch.bx Dj Dk Dm [(Sl Dh Dg Di)] Dn Do]) := by
 refine cal2 (n := 12) Tryz.func162 rfl rfl rfl rfl ?_
 intro S0 σ0 n0 hn0 H
 unfold M.slices_SortedFunc_impl_Hit__slices_Values_impl_hitHeap_impl_Hit_1__impl_compareHits at h
 refine c_seq (rg (sa (.slice none 0 0) rfl (w_end (q_then (c_seq (rg (sm (.func (.func 193) #[] #[(pt Dk Dm)]) rfl ?_)))))))
 revert h; refine br fun r1 hx2 h => ?_
 have hc3 := c_slices_Collect_impl_Hit__slices_Values_impl_hitHeap_impl_Hit_1 (Dj := Dj) (Dk := Dk) (Dm := Dm) (Dn := Dn) (Do := Do) (Dh := Dh) (Di := Di) hx2
 refine st_call (cx_call hc3 (ent_f hc3.fn rfl) hn0 (H.sel' [0, 1, 1] rfl rfl : Hp S0 σ0 _ ([_, _] ++ _))) wn ?_
 rintro _ σ6 ⟨_, ⟨a4, c5, rfl, rfl⟩, H, -⟩
 replace H : Hp _ _ _ [_, _, _] := H
 refine sa (Sl a4 r1 c5) rfl (w_end (q_then (c_seq (rg (sm (Sl a4 r1 c5) rfl (sm (.func (.func 98) #[] #[]) rfl ?_))))))
 replace H := H.ownLow 0 0 0 rfl (Nat.zero_le _) (Nat.zero_le _)
 revert h; refine br fun r7 hx8 h => ?_
 have hc9 := c_slices_SortFunc_impl_Hit_impl_Hit__impl_compareHits (Dq := a4) (Dr := c5) hx8
 refine st_call (cx_call hc9 (ent_f hc9.fn rfl) hn0 (H.sel' [0, 1, 2] rfl rfl : Hp S0 σ0 _ ([_] ++ _))) wn ?_
 rintro _ σ11 ⟨_, ⟨rfl, rfl, hn10⟩, H, -⟩
 replace H : Hp _ _ _ [_, _, _] := H
 have hsl : (Sl a4 r1 c5) = (Sl a4 r7 c5) := sl_len hn10.symm
 try rw [hsl]
 try rw [hsl] at H
 clear hsl
 refine w_end (q_then (c_seq (rg (sm (Sl a4 r7 c5) rfl (sa (Sl a4 r7 c5) rfl (w_end (q_then (c_ret ?_))))))))
 replace H := H.ownSc 0 0 n0 rfl (Nat.le_refl _)
 obtain rfl := sj h
 exact fin_ret (v := (Sl a4 r7 c5)) (results_ok Tryz.results162 (res_tmp (v := (Sl a4 r7 c5)) rfl res_nil) rfl) ⟨a4, c5, rfl, rfl⟩ (H.sel' [0, 1] rfl rfl)

theorem c_impl_nearestHits_inOrder {Bd : Int × (List (Int × Int))} {Cl : Option Addr} {Cm : Nat} {Cn Cp Cq : Nat} {Cr Cs : List Value} {r : (List (Int × Int))} (h : M.impl_nearestHits_inOrder Bd = some r) :
    Cal2 Tryz.prog 120 [(pt Cp Cq)] [Ch.bx Cn Cp Cq [(I Bd.1), (Sl Cl Bd.2 Cm)] Cr Cs, Ch.ro 0 (Sl Cl Bd.2 Cm) Bd.2] (fun n0 v L => ∃ (az1 : Option Addr), ∃ (cz2 : Nat), v = (Sl az1 r cz2) ∧ L = [Ch.own 0 n0 (Sl az1 r cz2) r, Ch.bx Cn Cp Cq [(I Bd.1), (Sl Cl Bd.2 Cm)] Cr Cs]) := by
 refine cal2 (n := 9) Tryz.func120 rfl rfl rfl rfl ?_
 intro S0 σ0 n0 hn0 H
 unfold M.impl_nearestHits_inOrder at h
 refine c_seq (rg (sa (.slice none 0 0) rfl (w_end (q_then (c_seq (rg (sm (pt Cp Cq) rfl (st (v := (pt Cp Cq)) (rv_nilCheck rfl) (st (v := (pt Cp (Cq + 1))) (rv_fieldAddr (off := 1) (ft := 132) Tryz.underlying134 rfl ti132 rfl rfl) ?_)))))))))
 have hc1 := H.cell (u := (Sl Cl Bd.2 Cm)) (o' := (Cq + 1)) 0 1 rfl rfl rfl
 refine st (v := (Sl Cl Bd.2 Cm)) (rv_load1 Tryz.underlying132 rfl rfl hc1) ?_
 revert h; refine br fun r2 hx3 h => ?_
 have hc4 := c_slices_Values_impl_hitHeap_impl_Hit (Cu := Cl) (Cv := Cm) hx3
 refine st_call (cx_call hc4 (ent_f hc4.fn rfl) hn0 (H.sel' [1, 0, 1] rfl rfl : Hp S0 σ0 _ ([_] ++ _))) wn ?_
 rintro _ σ6 ⟨_, ⟨b5, rfl, rfl⟩, H, -⟩
 replace H : Hp _ _ _ [_, _, _] := H
 revert h; refine br fun r7 hx8 h => ?_
 have hc9 := c_slices_SortedFunc_impl_Hit__slices_Values_impl_hitHeap_impl_Hit_1__impl_compareHits (Dj := n0) (Dk := b5) (Dm := 0) (Dn := []) (Do := []) (Dh := Cl) (Di := Cm) hx8
 refine st_call (cx_call hc9 (ent_f hc9.fn rfl) hn0 (H.sel' [0, 2, 1, 2] rfl rfl : Hp S0 σ0 _ ([_, _] ++ _))) wn ?_
 rintro _ σ12 ⟨_, ⟨a10, c11, rfl, rfl⟩, H, -⟩
 replace H : Hp _ _ _ [_, _, _, _] := H
 refine sa (Sl a10 r7 c11) rfl (w_end (q_then (c_ret ?_)))
 obtain rfl := sj h
 exact fin_ret (v := (Sl a10 r7 c11)) (results_ok Tryz.results120 (res_tmp (v := (Sl a10 r7 c11)) rfl res_nil) rfl) ⟨a10, c11, rfl, rfl⟩ (H.sel' [0, 2] rfl rfl)

theorem c_impl_gapsOf {Aa : List Int} {Ac : List Int} (Ds : Aa.length = 4) (Dt : Ac.length = 4) {r : (List Int)} (h : M.impl_gapsOf Aa Ac = some r) :
    Cal2 Tryz.prog 78 [(.agg (List.map I Aa).toArray), (.agg (List.map I Ac).toArray)] [] (fun n0 v L => v = (.agg (List.map I r).toArray) ∧ L = [] ∧ r.length = 4) := by
 refine cal2 (n := 29) Tryz.func78 rfl rfl rfl rfl ?_
 intro S0 σ0 n0 hn0 H
 unfold M.impl_gapsOf at h
 refine c_seq (rg (st_ex (ex_box (cs := (List.map I Aa)) H hn0 rfl rfl) wn ?_))
 rintro _ σ2 ⟨b1, rfl, H, -⟩
 refine st_ex (ex_box (cs := (List.map I Ac)) H hn0 rfl rfl) wn ?_
 rintro _ σ4 ⟨b3, rfl, H, -⟩
 refine st_ex (ex_alloc (cs := (List.map I (List.replicate 4 0))) H hn0 ti101 rfl) wn ?_
 rintro _ σ6 ⟨b5, rfl, H, -⟩
 refine w_end (q_then (c_seq (rg (st_ex (ex_alloc (cs := (List.map I (List.replicate 4 0))) H hn0 ti101 rfl) wn ?_))))
 rintro _ σ8 ⟨b7, rfl, H, -⟩
 refine w_end (q_then (c_seq (c_seq (rg (sm (I 0) rfl (w_end (q_then ?_)))))))
 obtain ⟨o9, hj, h'⟩ := bind_some h
 clear h
 refine c_cut (fun e a w => e = .normal ∧ ∃ (ρ : Nat → Value) (σ : St), a = fr 29 (updL ρ [(4, (pt b5 0)), (5, (pt b7 0))]) ∧ w = σ.w ∧ Hp S0 σ0 σ [Ch.bx n0 b7 0 (List.map I o9) [] [], Ch.bx n0 b5 0 (List.map I (List.replicate 4 0)) [] []] ∧ o9.length = 4) ?_ ?_
 ·clear h'
  rename _ = some o9 => h
  refine c_blk (wp_loopM _ h (fun s10 a w => ∃ (ρ : Nat → Value) (σ : St), a = fr 29 (updL ρ [(2, (pt b1 0)), (3, (pt b3 0)), (4, (pt b5 0)), (5, (pt b7 0)), (7, (I s10.2))]) ∧ w = σ.w ∧ Hp S0 σ0 σ [Ch.bx n0 b7 0 (List.map I s10.1) [] [], Ch.bx n0 b1 0 (List.map I Aa) [] [], Ch.bx n0 b3 0 (List.map I Ac) [] [], Ch.bx n0 b5 0 (List.map I (List.replicate 4 0)) [] []] ∧ s10.1.length = 4) ⟨_, σ8, fr_join ⟨rfl, rfl, rfl, rfl, rfl, trivial⟩, rfl, H.sel' [0, 3, 2, 1] rfl rfl, rfl⟩ ?_)
  clear h H
  rintro s10 a w o ⟨ρ, σ11, rfl, rfl, H, hl12⟩ h hres
  refine c_seq (rg (st (v := (B (decide (s10.2 < 4)))) (rv_lss (a := s10.2) (b := 4) rfl rfl) (w_end (q_then (c_seq ?_)))))
  refine cd_cond (decide (s10.2 < 4)) rfl (fun hb13 => ?_) (fun hb13 => ?_)
  ·replace h := bif_t hb13 h
   refine c_skip (q_then (c_seq (c_blk (c_seq (rg (sm (I s10.2) rfl (sa (I s10.2) rfl (w_end (q_then ?_)))))))))
   refine rgP (σ := σ11) 16 (by kernel_rfl) (by kernel_rfl) (by kernel_rfl) ?_
   refine sq (v := (I s10.2)) (rv_move rfl) (sq (v := (I s10.2)) (rv_move rfl) ?_)
   revert h; refine br fun x14 hx15 h => ?_
   have hl16 := gidx_lt hx15 Ds
   refine sq (v := (pt b1 (0 + s10.2.toNat * 1))) (rv_indexAddr_array Tryz.underlying101 ti3 rfl rfl hl16.1 hl16.2) ?_
   have hc17 := Hp.arrCell H 1 rfl hx15
   refine sq (v := (I x14)) (rv_load1 Tryz.underlying3 rfl rfl hc17) (sq (v := (I s10.2)) (rv_move rfl) ?_)
   revert h; refine br fun x18 hx19 h => ?_
   have hl20 := gidx_lt hx19 Dt
   refine sq (v := (pt b3 (0 + s10.2.toNat * 1))) (rv_indexAddr_array Tryz.underlying101 ti3 rfl rfl hl20.1 hl20.2) ?_
   have hc21 := Hp.arrCell H 2 rfl hx19
   refine sq (v := (I x18)) (rv_load1 Tryz.underlying3 rfl rfl hc21) (sq (v := (I (w64 (x14 - x18)))) (rv_sub (a := x14) (b := x18) rfl rfl) (sq (v := (I s10.2)) (rv_move rfl) ?_))
   revert h; refine br fun x22 hx23 h => ?_
   have hl24 := gidx_lt hx23 Dt
   refine sq (v := (pt b3 (0 + s10.2.toNat * 1))) (rv_indexAddr_array Tryz.underlying101 ti3 rfl rfl hl24.1 hl24.2) ?_
   have hc25 := Hp.arrCell H 2 rfl hx23
   refine sq (v := (I x22)) (rv_load1 Tryz.underlying3 rfl rfl hc25) (sq (v := (I s10.2)) (rv_move rfl) ?_)
   revert h; refine br fun x26 hx27 h => ?_
   have hl28 := gidx_lt hx27 Ds
   refine sq (v := (pt b1 (0 + s10.2.toNat * 1))) (rv_indexAddr_array Tryz.underlying101 ti3 rfl rfl hl28.1 hl28.2) ?_
   have hc29 := Hp.arrCell H 1 rfl hx27
   refine sq (v := (I x26)) (rv_load1 Tryz.underlying3 rfl rfl hc29) (sq (v := (I (w64 (x22 - x26)))) (rv_sub (a := x22) (b := x26) rfl rfl) (sq (v := (I (max (w64 (x14 - x18)) (w64 (x22 - x26))))) (rv_max rfl rfl) (sq_end ?_)))
   intro σ30 hm31
   replace H := H.grow (hm31.mono fun _ h => h); clear hm31
   revert h; refine br fun x32 hx33 h => ?_
   have hl34 := gidx_lt hx33 hl12
   refine st (v := (pt b7 (0 + s10.2.toNat * 1))) (rv_indexAddr_array Tryz.underlying101 ti3 rfl rfl hl34.1 hl34.2) ?_
   have hl35 := gidx_lt hx33 hl12
   refine st_exS (ex_store_box (k := s10.2.toNat * 1) (vs := [(I (max (w64 (x14 - x18)) (w64 (x22 - x26))))]) (cs' := (List.map I (s10.1.set s10.2.toNat (max (w64 (x14 - x18)) (w64 (x22 - x26)))))) H (i := 0) rfl ti3 rfl rfl rfl rfl rfl (by rw [List.length_map, hl12]; simp; omega) (by simp [plain]) (arr_set' _ _ _)) wn ?_
   rintro σ36 ⟨H, -⟩
   refine w_end (q_blk (q_then (rg (st (v := (I (w64 (s10.2 + 1)))) (rv_add (a := s10.2) (b := 1) rfl rfl) (sm (I (w64 (s10.2 + 1))) rfl (w_end (q_then ?_)))))))
   obtain rfl := sj h
   exact ⟨_, rfl, _, σ36, fr_join ⟨rfl, rfl, rfl, rfl, rfl, trivial⟩, rfl, H.sel' [0, 1, 2, 3] rfl rfl, (set_len hl12)⟩
  ·replace h := bif_f hb13 h
   refine c_exit (q_then_x (q_then_x (q_blk_hit ?_)))
   obtain rfl := sj h
   obtain rfl := hres _ rfl
   exact ⟨rfl, _, σ11, fr_join ⟨rfl, rfl, trivial⟩, rfl, H.sel' [0, 3] rfl rfl, hl12⟩
 ·clear hj
  have h := h'
  clear h' H
  rintro e a w ⟨rfl, ρ, σ37, rfl, rfl, H, hl38⟩
  refine q_then (c_seq (rg ?_))
  have hc39 := H.cells 0 rfl
  refine st (v := (.agg (List.map I o9).toArray)) (rv_load (cs := (List.map I o9)) Tryz.underlying101 rfl ti101 rfl (by rw [List.length_map]; exact hl38) hc39) ?_
  refine st_exS (ex_store_box (k := 0) (cs := (List.map I (List.replicate 4 0))) (vs := (List.map I o9)) (cs' := (List.map I o9)) H (i := 1) rfl ti101 rfl rfl rfl rfl ((List.length_map _).trans hl38) (arr_fits (k := 4) hl38 rfl) (plain_ints _) (arr_all (k := 4) hl38 rfl)) wn ?_
  rintro σ40 ⟨H, -⟩
  refine w_end (q_then (c_ret ?_))
  obtain rfl := sj h
  exact fin_ret (v := (.agg (List.map I o9).toArray)) (results_ok Tryz.results78 (res_cell rfl (run_cellRes (cs := (List.map I o9)) Tryz.underlying101 rfl ti101 (by rw [List.length_map]; exact hl38) (H.cells 0 rfl)) res_nil) rfl) ⟨rfl, rfl, hl38⟩ (H.sel' [] rfl rfl)

theorem c_impl_distanceOf {Du : Int} {Dv : List Int} (Dw : Dv.length = 4) {r : Int} (h : M.impl_distanceOf Du Dv = some r) :
    Cal2 Tryz.prog 77 [(I Du), (.agg (List.map I Dv).toArray)] [] (fun n0 v L => v = (I r) ∧ L = []) := by
 refine cal2 (n := 38) Tryz.func77 rfl rfl rfl rfl ?_
 intro S0 σ0 n0 hn0 H
 unfold M.impl_distanceOf at h
 refine c_seq (rg (st_ex (ex_box (cs := (List.map I Dv)) H hn0 rfl rfl) wn ?_))
 rintro _ σ2 ⟨b1, rfl, H, -⟩
 refine sa (I 0) rfl (w_end (q_then (c_seq (rg (sa (I 0) rfl (w_end (q_then (c_seq (c_seq (rg ?_))))))))))
 have hc3 := H.cells 0 rfl
 refine st (v := (.agg (List.map I Dv).toArray)) (rv_load (cs := (List.map I Dv)) Tryz.underlying101 rfl ti101 rfl (by rw [List.length_map]; exact Dw) hc3) ?_
 refine sm (I 0) rfl (w_end (q_then ?_))
 obtain ⟨o4, hj, h'⟩ := bind_some h
 clear h
 refine c_cut (fun e a w => (∃ t, o4 = (.inl t) ∧ e = .normal ∧ ∃ (ρ : Nat → Value) (σ : St), a = fr 38 (updL ρ [(5, (I t))]) ∧ w = σ.w ∧ Hp S0 σ0 σ []) ∨ (∃ t, o4 = (.inr t) ∧ e = .ret ∧ ∃ (ρ : Nat → Value) (σ : St), a = fr 38 (updL ρ [(4, (I t))]) ∧ w = σ.w ∧ Hp S0 σ0 σ [])) ?_ ?_
 ·clear h'
  rename _ = some o4 => h
  refine c_blk (wp_loopM _ h (fun s5 a w => ∃ (ρ : Nat → Value) (σ : St), a = fr 38 (updL ρ [(0, (I Du)), (5, (I s5.1)), (8, (.agg (List.map I Dv).toArray)), (9, (I s5.2))]) ∧ w = σ.w ∧ Hp S0 σ0 σ []) ⟨_, σ2, fr_join ⟨rfl, rfl, rfl, rfl, trivial⟩, rfl, H.sel' [] rfl rfl⟩ ?_)
  clear h H
  rintro s5 a w o ⟨ρ, σ6, rfl, rfl, H⟩ h hres
  refine c_seq (rg (st (v := (B (decide (s5.2 < 4)))) (rv_lss (a := s5.2) (b := 4) rfl rfl) (w_end (q_then (c_seq ?_)))))
  refine cd_cond (decide (s5.2 < 4)) rfl (fun hb7 => ?_) (fun hb7 => ?_)
  ·replace h := bif_t hb7 h
   refine c_skip (q_then (c_seq ?_))
   obtain ⟨o8, hj, h'⟩ := bind_some h
   clear h
   refine c_cut (fun e a w => (∃ t, o8 = (.inl t) ∧ e = .normal ∧ ∃ (ρ : Nat → Value) (σ : St), a = fr 38 (updL ρ [(0, (I Du)), (5, (I t)), (8, (.agg (List.map I Dv).toArray)), (9, (I s5.2))]) ∧ w = σ.w ∧ Hp S0 σ0 σ []) ∨ (∃ t, o8 = (.inr t) ∧ e = .ret ∧ ∃ (ρ : Nat → Value) (σ : St), a = fr 38 (updL ρ [(4, (I t))]) ∧ w = σ.w ∧ Hp S0 σ0 σ [])) ?_ ?_
   ·clear h'
    rename _ = some o8 => h
    refine c_blk (c_seq (rg ?_))
    revert h; refine br fun x9 hx10 h => ?_
    refine st (v := (I x9)) (rv_idx Tryz.underlying101 ti3 Tryz.underlying3 rfl rfl hx10 Dw) (sa (I x9) rfl (w_end (q_then (c_seq (rg (sm (I Du) rfl (w_end (q_then (c_blk (c_seq (rg ?_)))))))))))
    refine st (v := (B (Du == 1))) (rv_eql (a := Du) (b := 1) rfl rfl) (sa (B (Du == 1)) rfl (w_end (q_then ?_)))
    refine cd_cond (Du == 1) rfl (fun hb11 => ?_) (fun hb11 => ?_)
    ·replace h := bif_t hb11 h
     refine rg (sm (I s5.1) rfl (sm (I x9) rfl (st (v := (I (w64 (s5.1 + x9)))) (rv_add (a := s5.1) (b := x9) rfl rfl) (sa (I (w64 (s5.1 + x9))) rfl (w_end (q_blk (q_blk ?_)))))))
     obtain rfl := sj h
     exact .inl ⟨_, rfl, rfl, _, σ6, fr_join ⟨rfl, rfl, rfl, rfl, trivial⟩, rfl, H.sel' [] rfl rfl⟩
    ·replace h := bif_f hb11 h
     refine c_seq (rg (st (v := (B (Du == 2))) (rv_eql (a := Du) (b := 2) rfl rfl) (sa (B (Du == 2)) rfl (w_end (q_then ?_)))))
     refine cd_cond (Du == 2) rfl (fun hb12 => ?_) (fun hb12 => ?_)
     ·replace h := bif_t hb12 h
      refine rg (sm (I s5.1) rfl (sm (I x9) rfl (st (v := (I (max s5.1 x9))) (rv_max rfl rfl) (sa (I (max s5.1 x9)) rfl (w_end (q_blk (q_blk ?_)))))))
      obtain rfl := sj h
      exact .inl ⟨_, rfl, rfl, _, σ6, fr_join ⟨rfl, rfl, rfl, rfl, trivial⟩, rfl, H.sel' [] rfl rfl⟩
     ·replace h := bif_f hb12 h
      refine c_seq (rg (st (v := (B (Du == 3))) (rv_eql (a := Du) (b := 3) rfl rfl) (sa (B (Du == 3)) rfl (w_end (q_then ?_)))))
      refine cd_cond (Du == 3) rfl (fun hb13 => ?_) (fun hb13 => ?_)
      ·replace h := bif_t hb13 h
       refine rg (sm (I s5.1) rfl (sm (I x9) rfl (sm (I x9) rfl (st (v := (I (w64 (x9 * x9)))) (rv_mul (a := x9) (b := x9) rfl rfl) (st (v := (I (w64 (s5.1 + (w64 (x9 * x9)))))) (rv_add (a := s5.1) (b := (w64 (x9 * x9))) rfl rfl) (sa (I (w64 (s5.1 + (w64 (x9 * x9))))) rfl (w_end (q_blk (q_blk ?_)))))))))
       obtain rfl := sj h
       exact .inl ⟨_, rfl, rfl, _, σ6, fr_join ⟨rfl, rfl, rfl, rfl, trivial⟩, rfl, H.sel' [] rfl rfl⟩
      ·replace h := bif_f hb13 h
       refine c_seq (rg (st (v := (B (Du == 4))) (rv_eql (a := Du) (b := 4) rfl rfl) (sa (B (Du == 4)) rfl (w_end (q_then ?_)))))
       refine cd_cond (Du == 4) rfl (fun hb14 => ?_) (fun hb14 => ?_)
       ·replace h := bif_t hb14 h
        refine rg (sm (I s5.1) rfl (sm (I x9) rfl (st (v := (I (min x9 1))) (rv_min rfl rfl) (st (v := (I (w64 (s5.1 + (min x9 1))))) (rv_add (a := s5.1) (b := (min x9 1)) rfl rfl) (sa (I (w64 (s5.1 + (min x9 1)))) rfl (w_end (q_blk (q_blk ?_))))))))
        obtain rfl := sj h
        exact .inl ⟨_, rfl, rfl, _, σ6, fr_join ⟨rfl, rfl, rfl, rfl, trivial⟩, rfl, H.sel' [] rfl rfl⟩
       ·replace h := bif_f hb14 h
        refine c_seq (rg (sa (I (-1)) rfl (w_end (q_then (c_ret (q_blk_r (q_blk_r ?_)))))))
        obtain rfl := sj h
        exact .inr (⟨_, rfl, rfl, _, σ6, fr_join ⟨rfl, trivial⟩, rfl, H.sel' [] rfl rfl⟩)
   ·clear hj
    have h := h'
    clear h' H
    rintro e a w (⟨t15, rfl, rfl, ρ, σ16, rfl, rfl, H⟩ | ⟨t17, rfl, rfl, ρ, σ18, rfl, rfl, H⟩)
    ·replace h := selim_l h
     refine q_then (rg (st (v := (I (w64 (s5.2 + 1)))) (rv_add (a := s5.2) (b := 1) rfl rfl) (sm (I (w64 (s5.2 + 1))) rfl (w_end (q_then ?_)))))
     obtain rfl := sj h
     exact ⟨_, rfl, _, σ16, fr_join ⟨rfl, rfl, rfl, rfl, trivial⟩, rfl, H.sel' [] rfl rfl⟩
    ·replace h := selim_r h
     refine q_then_r (q_then_r (q_blk_r ?_))
     obtain rfl := sj h
     obtain rfl := hres _ rfl
     exact .inr (⟨_, rfl, rfl, _, σ18, fr_join ⟨rfl, trivial⟩, rfl, H.sel' [] rfl rfl⟩)
  ·replace h := bif_f hb7 h
   refine c_exit (q_then_x (q_then_x (q_blk_hit ?_)))
   obtain rfl := sj h
   obtain rfl := hres _ rfl
   exact .inl ⟨_, rfl, rfl, _, σ6, fr_join ⟨rfl, trivial⟩, rfl, H.sel' [] rfl rfl⟩
 ·clear hj
  have h := h'
  clear h' H
  rintro e a w (⟨t19, rfl, rfl, ρ, σ20, rfl, rfl, H⟩ | ⟨t21, rfl, rfl, ρ, σ22, rfl, rfl, H⟩)
  ·replace h := selim_l h
   refine q_then (c_seq (rg (sm (I t19) rfl (sa (I t19) rfl (w_end (q_then (c_ret ?_)))))))
   obtain rfl := sj h
   exact fin_ret (v := (I t19)) (results_ok Tryz.results77 (res_tmp (v := (I t19)) rfl res_nil) rfl) ⟨rfl, rfl⟩ (H.sel' [] rfl rfl)
  ·replace h := selim_r h
   refine q_then_r ?_
   obtain rfl := sj h
   exact fin_ret (v := (I t21)) (results_ok Tryz.results77 (res_tmp (v := (I t21)) rfl res_nil) rfl) ⟨rfl, rfl⟩ (H.sel' [] rfl rfl)

theorem c_impl_Distance {Du : Int} {Dx : List Int} {Dy : List Int} {Dz : Option Addr} {Ea : Nat} {Eb : Option Addr} {Ec : Nat} {r : Int} (h : M.impl_Distance Du Dx Dy = some r) :
    Cal2 Tryz.prog 23 [(I Du), (Sl Dz Dx Ea), (Sl Eb Dy Ec)] [Ch.ro 0 (Sl Dz Dx Ea) Dx, Ch.ro 0 (Sl Eb Dy Ec) Dy] (fun n0 v L => v = (I r) ∧ L = []) := by
 refine cal2 (n := 24) Tryz.func23 rfl rfl rfl rfl ?_
 intro S0 σ0 n0 hn0 H
 unfold M.impl_Distance at h
 refine c_seq (rg (sa (I 0) rfl (w_end (q_then (c_seq (c_seq ?_))))))
 obtain ⟨o1, hj, h'⟩ := bind_some h
 clear h
 refine c_cut (fun e a w => e = .normal ∧ ∃ (ρ : Nat → Value) (σ : St), a = fr 24 (updL ρ [(0, (I Du)), (1, (Sl Dz Dx Ea)), (2, (Sl Eb Dy Ec)), (14, (B o1))]) ∧ w = σ.w ∧ Hp S0 σ0 σ [Ch.ro 0 (Sl Dz Dx Ea) Dx, Ch.ro 0 (Sl Eb Dy Ec) Dy]) ?_ ?_
 ·clear h'
  rename _ = some o1 => h
  refine rg (sm (Sl Dz Dx Ea) rfl ?_)
  revert h; refine br fun r2 hx3 h => ?_
  have hc4 := c_impl_ValidVector (Bh := Dz) (Bi := Ea) hx3
  refine st_call (cx_call hc4 (ent_f hc4.fn rfl) hn0 (H.sel' [0, 0, 1] rfl rfl : Hp S0 σ0 _ ([_] ++ _))) wn ?_
  rintro _ σ5 ⟨_, ⟨rfl, rfl⟩, H, -⟩
  replace H : Hp _ _ _ [_, _] := H
  refine st (v := (B (!r2))) (rv_not rfl) (sm (B (!r2)) rfl ?_)
  rcases Bool.eq_false_or_eq_true (!r2) with hb6 | hb6
  ·replace h := bif_t hb6 h
   refine st_skip (congrArg some hb6) (st_skip (congrArg some hb6) (st_skip (congrArg some hb6) (st (v := (B true)) (rv_pick_t (congrArg B hb6) rfl) (w_end ?_))))
   obtain rfl := sj h
   exact ⟨rfl, _, σ5, fr_join ⟨rfl, rfl, rfl, rfl, trivial⟩, rfl, H.sel' [0, 1] rfl rfl⟩
  ·replace h := bif_f hb6 h
   refine st_g (v := (Sl Eb Dy Ec)) (congrArg some hb6) (rv_move rfl) ?_
   revert h; refine br fun r7 hx8 h => ?_
   have hc9 := c_impl_ValidVector (Bh := Eb) (Bi := Ec) hx8
   refine st_call (cx_call hc9 (ent_f hc9.fn rfl) hn0 (H.sel' [1, 0, 1] rfl rfl : Hp S0 σ0 _ ([_] ++ _))) (wanted_yes rfl (by exact (congrArg some hb6))) ?_
   rintro _ σ10 ⟨_, ⟨rfl, rfl⟩, H, -⟩
   replace H : Hp _ _ _ [_, _] := H
   refine st_g (v := (B (!r7))) (congrArg some hb6) (rv_not rfl) (st (v := (B (!r7))) (rv_pick_f (congrArg B hb6) rfl) (w_end ?_))
   obtain rfl := sj h
   exact ⟨rfl, _, σ10, fr_join ⟨rfl, rfl, rfl, rfl, trivial⟩, rfl, H.sel' [0, 1] rfl rfl⟩
 ·clear hj
  have h := h'
  clear h' H
  rintro e a w ⟨rfl, ρ, σ11, rfl, rfl, H⟩
  refine q_then ?_
  refine cd_cond o1 rfl (fun hb12 => ?_) (fun hb12 => ?_)
  ·replace h := bif_t hb12 h
   refine c_seq (rg (sa (I (-1)) rfl (w_end (q_then (c_ret (q_then_r ?_))))))
   obtain rfl := sj h
   exact fin_ret (v := (I (-1))) (results_ok Tryz.results23 (res_tmp (v := (I (-1))) rfl res_nil) rfl) ⟨rfl, rfl⟩ (H.sel' [] rfl rfl)
  ·replace h := bif_f hb12 h
   refine c_skip (q_then (c_seq ?_))
   revert h; refine br fun xs13 hx14 h => ?_
   obtain ⟨hl18, hq19⟩ := garr_some hx14
   clear hx14 hq19
   obtain ⟨b15, o16, rfl, hc17⟩ := (H.ro 0 rfl).arr (Nat.lt_of_lt_of_le (by decide) hl18)
   revert h; refine br fun xs20 hx21 h => ?_
   obtain ⟨hl25, hq26⟩ := garr_some hx21
   clear hx21 hq26
   obtain ⟨b22, o23, rfl, hc24⟩ := (H.ro 1 rfl).arr (Nat.lt_of_lt_of_le (by decide) hl25)
   revert h; refine br fun r27 hx28 h => ?_
   have hc29 := c_impl_gapsOf (by rw [List.length_take]; have := hl18; omega) (by rw [List.length_take]; have := hl25; omega) hx28
   have Hs := H
   refine rg2 (σ := σ11) (Nm := Unit) 8 [7] [[false], [true]] [[(0, 0), (1, 1)], [(0, 0)], [(0, 0)], [(0, 0)], [(0, 0)], [(0, 0)], [(0, 0)], [(0, 1)]] 1 [fun _ => fun σm => Hp S0 σ0 σm [Ch.ro 0 (Sl (some ⟨b15, o16, none⟩) Dx Ea) Dx, Ch.ro 0 (Sl (some ⟨b22, o23, none⟩) Dy Ec) Dy] ∧ Md (cov []) σ11 σm, fun _ => fun σm => Hp S0 σ0 σm [Ch.ro 0 (Sl (some ⟨b15, o16, none⟩) Dx Ea) Dx, Ch.ro 0 (Sl (some ⟨b22, o23, none⟩) Dy Ec) Dy] ∧ Md (cov []) σ11 σm ∧ r27.length = 4] [fun _ => (I Du), fun _ => (Sl (some ⟨b15, o16, none⟩) Dx Ea), fun _ => (.pointer (some ⟨b15, o16, none⟩)), fun _ => (.agg (List.map I (List.take 4 Dx)).toArray), fun _ => (Sl (some ⟨b22, o23, none⟩) Dy Ec), fun _ => (.pointer (some ⟨b22, o23, none⟩)), fun _ => (.agg (List.map I (List.take 4 Dy)).toArray), fun _ => (.agg (List.map I r27).toArray)] () (by kernel_rfl) (by kernel_rfl) ?_ ?_ ?_
   ·intro σm m0
    exact ⟨H.grow (m0.mono fun _ h => h.elim), m0⟩
   ·refine ac rfl (by
      intro k _nm ρ σm hJ hoff hdep
      have e0 := look_off (N := 24) (hoff 0 rfl) rfl
      exact dp_v (v := (I Du)) wn (rv_move e0) rfl hJ) ?_
    refine ac rfl (by
      intro k _nm ρ σm hJ hoff hdep
      have e1 := look_off (N := 24) (hoff 1 rfl) rfl
      exact dp_v (v := (Sl (some ⟨b15, o16, none⟩) Dx Ea)) wn (rv_move e1) rfl hJ) ?_
    refine ac rfl (by
      intro k _nm ρ σm hJ hoff hdep
      have e16 := hdep 1 rfl rfl 16 rfl
      exact dp_v (v := (.pointer (some ⟨b15, o16, none⟩))) wn (rv_arrPtr Tryz.underlying101 e16 hl18) rfl hJ) ?_
    refine all_cons (by
      refine ⟨?_, ?_⟩
      ·intro _nm ρ σm hJ hoff hdep
       have e17 := hdep 2 rfl rfl 17 rfl
       obtain ⟨H, m⟩ := id hJ
       replace hc17 := (Hs.ro 0 rfl).arr_md hc17 m
       exact dp_v (v := (.agg (List.map I (List.take 4 Dx)).toArray)) wn (rv_load (cs := List.map I (List.take 4 Dx)) Tryz.underlying101 rfl ti101 e17 (by rw [List.length_map, List.length_take]; have := hl18; omega) (arr_take hc17)) rfl hJ
      trivial) ?_
    refine ac rfl (by
      intro k _nm ρ σm hJ hoff hdep
      have e2 := look_off (N := 24) (hoff 2 rfl) rfl
      exact dp_v (v := (Sl (some ⟨b22, o23, none⟩) Dy Ec)) wn (rv_move e2) rfl hJ) ?_
    refine ac rfl (by
      intro k _nm ρ σm hJ hoff hdep
      have e19 := hdep 4 rfl rfl 19 rfl
      exact dp_v (v := (.pointer (some ⟨b22, o23, none⟩))) wn (rv_arrPtr Tryz.underlying101 e19 hl25) rfl hJ) ?_
    refine all_cons (by
      refine ⟨?_, ?_⟩
      ·intro _nm ρ σm hJ hoff hdep
       have e20 := hdep 5 rfl rfl 20 rfl
       obtain ⟨H, m⟩ := id hJ
       replace hc24 := (Hs.ro 1 rfl).arr_md hc24 m
       exact dp_v (v := (.agg (List.map I (List.take 4 Dy)).toArray)) wn (rv_load (cs := List.map I (List.take 4 Dy)) Tryz.underlying101 rfl ti101 e20 (by rw [List.length_map, List.length_take]; have := hl25; omega) (arr_take hc24)) rfl hJ
      trivial) ?_
    refine all_cons (by
      refine ⟨?_, ?_⟩
      ·intro _nm ρ σm hJ hoff hdep
       have e18 : look 24 ρ 18 = (.agg (List.map I (List.take 4 Dx)).toArray) := hdep 3 rfl rfl 18 rfl
       have e21 : look 24 ρ 21 = (.agg (List.map I (List.take 4 Dy)).toArray) := hdep 6 rfl rfl 21 rfl
       obtain ⟨H, m⟩ := id hJ
       refine dp_cx wn (cx_call hc29 (ent_f hc29.fn (by show [look 24 ρ 18, look 24 ρ 21] = _; rw [e18, e21])) hn0 (H.sel' [0, 1] rfl rfl : Hp S0 σ0 _ ([] ++ _))) ?_
       rintro _ σq ⟨_, ⟨rfl, rfl, hl30⟩, H2, m2⟩
       exact ⟨_, (), rfl, rfl, ⟨H2.sel' [0, 1] rfl rfl, m.comp0 m2, hl30⟩, stab [0, 1, 2, 3, 4, 5, 6] (by kernel_rfl) ⟨rfl, rfl, rfl, rfl, rfl, rfl, rfl, trivial⟩⟩
      trivial) ?_
    exact all_nil
   ·intro _nm ρ σ31 hJ hoff hrel
    have e15 := hrel 0 rfl 15 rfl
    have e22 := hrel 7 rfl 22 rfl
    obtain ⟨H, -, hl30⟩ := (show Hp S0 σ0 σ31 [Ch.ro 0 (Sl (some ⟨b15, o16, none⟩) Dx Ea) Dx, Ch.ro 0 (Sl (some ⟨b22, o23, none⟩) Dy Ec) Dy] ∧ Md (cov []) σ11 σ31 ∧ r27.length = 4 from hJ)
    clear hJ Hs
    rw [fr_lookL (L := [(15, (I Du)), (22, (.agg (List.map I r27).toArray))]) ⟨e15, e22, trivial⟩]
    clear hoff hrel e15 e22
    revert h; refine br fun r32 hx33 h => ?_
    have hc34 := c_impl_distanceOf hl30 hx33
    refine st_call (cx_call hc34 (ent_f hc34.fn rfl) hn0 (H.sel' [0, 1] rfl rfl : Hp S0 σ0 _ ([] ++ _))) wn ?_
    rintro _ σ35 ⟨_, ⟨rfl, rfl⟩, H, -⟩
    replace H : Hp _ _ _ [_, _] := H
    refine sa (I r32) rfl (w_end (q_then (c_ret ?_)))
    obtain rfl := sj h
    exact fin_ret (v := (I r32)) (results_ok Tryz.results23 (res_tmp (v := (I r32)) rfl res_nil) rfl) ⟨rfl, rfl⟩ (H.sel' [] rfl rfl)

theorem c_impl_nearestAmong_1__p3__p24 {Bj : Int × (List Int) × Int} {Ed : Int} {Ee : List Int} {Bk : Option Addr} {Bl : Nat} {Ef Eg Eh : Nat} {Ei Ej : List Value} {Ek : Option Addr} {El : Nat} {Em En Eo : Nat} {Ep Er : List Value} {r : Int} (h : M.impl_nearestAmong_1__p3__p24 Bj Ed Ee = some r) :
    Cal2 Tryz.prog 131 [(.agg #[(I Bj.1), (Sl Bk Bj.2.1 Bl), (I Bj.2.2)]), (pt Eg Eh), (pt En Eo)] [Ch.ro 0 (Sl Bk Bj.2.1 Bl) Bj.2.1, Ch.bx Ef Eg Eh [(I Ed)] Ei Ej, Ch.bx Em En Eo [(Sl Ek Ee El)] Ep Er, Ch.ro 0 (Sl Ek Ee El) Ee] (fun n0 v L => v = (I r) ∧ L = [Ch.bx Ef Eg Eh [(I Ed)] Ei Ej, Ch.bx Em En Eo [(Sl Ek Ee El)] Ep Er]) := by
 refine cal2 (n := 10) Tryz.func131 rfl rfl rfl rfl ?_
 intro S0 σ0 n0 hn0 H
 unfold M.impl_nearestAmong_1__p3__p24 at h
 refine c_seq (rg (st_ex (ex_box (cs := [(I Bj.1), (Sl Bk Bj.2.1 Bl), (I Bj.2.2)]) H hn0 rfl rfl) wn ?_))
 rintro _ σ2 ⟨b1, rfl, H, -⟩
 refine sa (I 0) rfl (w_end (q_then (c_seq (rg ?_))))
 have hc3 := H.cell (u := (I Ed)) (o' := Eh) 2 0 rfl rfl rfl
 refine st (v := (I Ed)) (rv_load1 Tryz.underlying3 rfl rfl hc3) (st (v := (pt b1 1)) (rv_fieldAddr (off := 1) (ft := 27) Tryz.underlying34 rfl ti27 rfl rfl) ?_)
 have hc4 := H.cell (u := (Sl Bk Bj.2.1 Bl)) (o' := 1) 0 1 rfl rfl rfl
 refine st (v := (Sl Bk Bj.2.1 Bl)) (rv_load1 Tryz.underlying27 rfl rfl hc4) ?_
 have hc5 := H.cell (u := (Sl Ek Ee El)) (o' := Eo) 3 0 rfl rfl rfl
 refine st (v := (Sl Ek Ee El)) (rv_load1 Tryz.underlying27 rfl rfl hc5) ?_
 revert h; refine br fun r6 hx7 h => ?_
 have hc8 := c_impl_Distance (Dz := Bk) (Ea := Bl) (Eb := Ek) (Ec := El) hx7
 refine st_call (cx_call hc8 (ent_f hc8.fn rfl) hn0 (H.sel' [1, 4, 0, 1, 2, 3, 4] rfl rfl : Hp S0 σ0 _ ([_, _] ++ _))) wn ?_
 rintro _ σ9 ⟨_, ⟨rfl, rfl⟩, H, -⟩
 replace H : Hp _ _ _ [_, _, _, _, _] := H
 refine sa (I r6) rfl (w_end (q_then (c_ret ?_)))
 obtain rfl := sj h
 exact fin_ret (v := (I r6)) (results_ok Tryz.results131 (res_tmp (v := (I r6)) rfl res_nil) rfl) ⟨rfl, rfl⟩ (H.sel' [2, 3] rfl rfl)

theorem c_impl_nearestBy__impl_nearestAmong_1 {Az : List (Int × (List Int) × Int)} {Es : Int} {Et : Int} {Eu : List Int} {Ba : Option Addr} {Bb : Nat} {Ev Ew Ey : Nat} {Ez Fa : List Value} {Fb : Option Addr} {Fc : Nat} {Fd Fe Ff : Nat} {Fg Fh : List Value} {r : (List (Int × Int))} (h : M.impl_nearestBy__impl_nearestAmong_1 Az Es Et Eu = some r) :
    Cal2 Tryz.prog 56 [(Sl Ba Az Bb), (I Es), (.func (.func 131) #[] #[(pt Ew Ey), (pt Fe Ff)])] [Ch.ro 0 (Sl Ba Az Bb) Az, Ch.bx Ev Ew Ey [(I Et)] Ez Fa, Ch.bx Fd Fe Ff [(Sl Fb Eu Fc)] Fg Fh, Ch.ro 0 (Sl Fb Eu Fc) Eu] (fun n0 v L => ∃ (az1 : Option Addr), ∃ (cz2 : Nat), v = (Sl az1 r cz2) ∧ L = [Ch.own 0 n0 (Sl az1 r cz2) r, Ch.bx Ev Ew Ey [(I Et)] Ez Fa, Ch.bx Fd Fe Ff [(Sl Fb Eu Fc)] Fg Fh]) := by
 refine cal2 (n := 27) Tryz.func56 rfl rfl rfl rfl ?_
 intro S0 σ0 n0 hn0 H
 unfold M.impl_nearestBy__impl_nearestAmong_1 at h
 refine c_seq (rg (sa (.slice none 0 0) rfl (w_end (q_then (c_seq (rg (sm (I Es) rfl ?_)))))))
 refine st (v := (.agg #[(I Es), (.slice none 0 0)])) (rv_build (ps := [(0, (I Es))]) Tryz.underlying134 ti134 (bp134 Tryz.underlying134) rfl (by kernel_rfl)) ?_
 refine st_ex (ex_alloc (cs := [(I 0), (.slice none 0 0)]) H hn0 ti134 rfl) wn ?_
 rintro _ σ2 ⟨b1, rfl, H, -⟩
 refine st_exS (ex_store_box (k := 0) (cs := [(I 0), (.slice none 0 0)]) (vs := [(I Es), (.slice none 0 0)]) (cs' := [(I Es), (.slice none 0 0)]) H (i := 0) rfl ti134 rfl rfl rfl rfl rfl (Nat.le_of_ble_eq_true rfl) (by simp [plain]) rfl) wn ?_
 rintro σ3 ⟨H, -⟩
 refine w_end (q_then (c_seq (c_seq (rg (sm (Sl Ba Az Bb) rfl (st (v := (I (Az.length : Int))) (rv_len Tryz.underlying26 rfl) (sm (I 0) rfl (w_end (q_then ?_)))))))))
 obtain ⟨o4, hj, h'⟩ := bind_some h
 clear h
 refine c_cut (fun e a w => e = .normal ∧ ∃ (ρ : Nat → Value) (σ : St) (aj1 : Option Addr) (cj2 : Nat), a = fr 27 (updL ρ [(2, (.func (.func 131) #[] #[(pt Ew Ey), (pt Fe Ff)])), (7, (pt b1 0))]) ∧ w = σ.w ∧ Hp S0 σ0 σ [Ch.bx n0 b1 0 [(I o4.1), (Sl aj1 o4.2 cj2)] [] [], Ch.own 0 0 (Sl aj1 o4.2 cj2) o4.2, Ch.bx Ev Ew Ey [(I Et)] Ez Fa, Ch.ro 0 (Sl Fb Eu Fc) Eu, Ch.bx Fd Fe Ff [(Sl Fb Eu Fc)] Fg Fh]) ?_ ?_
 ·clear h'
  rename _ = some o4 => h
  refine c_blk ?_
  replace H := H.nilOwn (Int × Int) 0 0
  refine wp_loopM _ h (fun s5 a w => ∃ (ρ : Nat → Value) (σ : St) (aj1 : Option Addr) (cj2 : Nat), a = fr 27 (updL ρ [(2, (.func (.func 131) #[] #[(pt Ew Ey), (pt Fe Ff)])), (7, (pt b1 0)), (12, (Sl Ba Az Bb)), (13, (I (Az.length : Int))), (14, (I s5.2))]) ∧ w = σ.w ∧ Hp S0 σ0 σ [Ch.bx n0 b1 0 [(I s5.1.1), (Sl aj1 s5.1.2 cj2)] [] [], Ch.own 0 0 (Sl aj1 s5.1.2 cj2) s5.1.2, Ch.bx Ev Ew Ey [(I Et)] Ez Fa, Ch.ro 0 (Sl Fb Eu Fc) Eu, Ch.bx Fd Fe Ff [(Sl Fb Eu Fc)] Fg Fh, Ch.ro 0 (Sl Ba Az Bb) Az]) ⟨_, σ3, none, 0, fr_join ⟨rfl, rfl, rfl, rfl, rfl, trivial⟩, rfl, H.sel' [1, 0, 3, 5, 4, 2] rfl rfl⟩ ?_
  clear h H
  rintro s5 a w o ⟨ρ, σ6, a7, c8, rfl, rfl, H⟩ h hres
  refine c_seq (rg (st (v := (B (decide (s5.2 < (Az.length : Int))))) (rv_lss (a := s5.2) (b := (Az.length : Int)) rfl rfl) (w_end (q_then (c_seq ?_)))))
  refine cd_cond (decide (s5.2 < (Az.length : Int))) rfl (fun hb9 => ?_) (fun hb9 => ?_)
  ·replace h := bif_t hb9 h
   refine c_skip (q_then (c_seq (c_blk (c_seq (rg ?_)))))
   revert h; refine br fun x10 hx11 h => ?_
   obtain ⟨b13, o14, hi12, -⟩ := (H.ro 5 rfl).ix hx11
   refine st (v := (pt b13 o14)) (rv_ix Tryz.underlying26 ti34 rfl rfl hi12) ?_
   obtain ⟨_, ⟨_, _, rfl, rfl, ⟨_, _, rfl, ⟨_, rfl, hR19⟩, rfl⟩⟩, hl15, hc16⟩ := ((H.ro 5 rfl).at hx11 hi12).cells
   obtain ⟨a17, c18, rfl⟩ := hR19.isSl
   replace H := H.add (d := Ch.ro 0 (Sl a17 x10.2.1 c18) x10.2.1) hR19 (fun _ h => h)
   clear hR19
   refine st (v := (.agg #[(I x10.1), (Sl a17 x10.2.1 c18), (I x10.2.2)])) (rv_load Tryz.underlying34 rfl ti34 rfl hl15 hc16) (st_ex (ex_alloc (cs := [(I 0), (.slice none 0 0), (I 0)]) H hn0 ti34 rfl) wn ?_)
   rintro _ σ21 ⟨b20, rfl, H, -⟩
   refine st_exS (ex_store_box (k := 0) (cs := [(I 0), (.slice none 0 0), (I 0)]) (vs := [(I x10.1), (Sl a17 x10.2.1 c18), (I x10.2.2)]) (cs' := [(I x10.1), (Sl a17 x10.2.1 c18), (I x10.2.2)]) H (i := 0) rfl ti34 rfl rfl rfl rfl rfl (Nat.le_of_ble_eq_true rfl) (by simp [plain]) rfl) wn ?_
   rintro σ22 ⟨H, -⟩
   refine w_end (q_then ?_)
   have hc23 := H.cell (u := (I x10.1)) (o' := 0) 0 0 rfl rfl rfl
   have hc24 := H.cells 0 rfl
   revert h; refine br fun r25 hx26 h => ?_
   have hc27 := c_impl_nearestAmong_1__p3__p24 (Bk := a17) (Bl := c18) (Ef := Ev) (Eg := Ew) (Eh := Ey) (Ei := Ez) (Ej := Fa) (Em := Fd) (En := Fe) (Eo := Ff) (Ep := Fg) (Er := Fh) (Ek := Fb) (El := Fc) hx26
   have Hs := H
   refine rg2 (σ := σ22) (Nm := Unit) 5 [4] [[false], [true]] [[(0, 0), (1, 1)], [(0, 0), (1, 1)], [(0, 0)], [(0, 0)], [(0, 1)]] 1 [fun _ => fun σm => Hp S0 σ0 σm [Ch.bx n0 b20 0 [(I x10.1), (Sl a17 x10.2.1 c18), (I x10.2.2)] [] [], Ch.ro 0 (Sl a17 x10.2.1 c18) x10.2.1, Ch.bx n0 b1 0 [(I s5.1.1), (Sl a7 s5.1.2 c8)] [] [], Ch.own 0 0 (Sl a7 s5.1.2 c8) s5.1.2, Ch.bx Ev Ew Ey [(I Et)] Ez Fa, Ch.ro 0 (Sl Fb Eu Fc) Eu, Ch.bx Fd Fe Ff [(Sl Fb Eu Fc)] Fg Fh, Ch.ro 0 (Sl Ba Az Bb) Az] ∧ Md (cov []) σ22 σm, fun _ => fun σm => Hp S0 σ0 σm [Ch.bx Ev Ew Ey [(I Et)] Ez Fa, Ch.bx Fd Fe Ff [(Sl Fb Eu Fc)] Fg Fh, Ch.bx n0 b20 0 [(I x10.1), (Sl a17 x10.2.1 c18), (I x10.2.2)] [] [], Ch.ro 0 (Sl a17 x10.2.1 c18) x10.2.1, Ch.bx n0 b1 0 [(I s5.1.1), (Sl a7 s5.1.2 c8)] [] [], Ch.own 0 0 (Sl a7 s5.1.2 c8) s5.1.2, Ch.ro 0 (Sl Fb Eu Fc) Eu, Ch.ro 0 (Sl Ba Az Bb) Az] ∧ Md (fun i => (cov []) i ∨ (cov [Ch.ro 0 (Sl a17 x10.2.1 c18) x10.2.1, Ch.bx Ev Ew Ey [(I Et)] Ez Fa, Ch.bx Fd Fe Ff [(Sl Fb Eu Fc)] Fg Fh, Ch.ro 0 (Sl Fb Eu Fc) Eu]) i) σ22 σm] [fun _ => (pt b20 0), fun _ => (I x10.1), fun _ => (.func (.func 131) #[] #[(pt Ew Ey), (pt Fe Ff)]), fun _ => (.agg #[(I x10.1), (Sl a17 x10.2.1 c18), (I x10.2.2)]), fun _ => (I r25)] () (by kernel_rfl) (by kernel_rfl) ?_ ?_ ?_
   ·intro σm m0
    exact ⟨H.grow (m0.mono fun _ h => h.elim), m0⟩
   ·refine ac rfl (by
      intro k _nm ρ σm hJ hoff hdep
      have e9 := look_off (N := 27) (hoff 9 rfl) rfl
      exact dp_v (v := (pt b20 0)) wn (rv_fieldAddr (off := 0) (ft := 3) Tryz.underlying34 rfl ti3 rfl e9) rfl hJ) ?_
    refine all_cons (by
      refine ⟨?_, ?_⟩
      ·intro _nm ρ σm hJ hoff hdep
       have e18 := hdep 0 rfl rfl 18 rfl
       obtain ⟨H, m⟩ := id hJ
       have hc23 := H.cell (u := (I x10.1)) (o' := 0) 0 0 rfl rfl rfl
       exact dp_v (v := (I x10.1)) wn (rv_load1 Tryz.underlying3 rfl e18 hc23) rfl hJ
      refine ⟨?_, ?_⟩
      ·intro _nm ρ σm hJ hoff hdep
       have e18 := hdep 0 rfl rfl 18 rfl
       obtain ⟨H, m⟩ := id hJ
       have hc23 := H.cell (u := (I x10.1)) (o' := 0) 2 0 rfl rfl rfl
       exact dp_v (v := (I x10.1)) wn (rv_load1 Tryz.underlying3 rfl e18 hc23) rfl hJ
      trivial) ?_
    refine ac rfl (by
      intro k _nm ρ σm hJ hoff hdep
      have e2 := look_off (N := 27) (hoff 2 rfl) rfl
      exact dp_v (v := (.func (.func 131) #[] #[(pt Ew Ey), (pt Fe Ff)])) wn (rv_move e2) rfl hJ) ?_
    refine all_cons (by
      refine ⟨?_, ?_⟩
      ·intro _nm ρ σm hJ hoff hdep
       have e9 := look_off (N := 27) (hoff 9 rfl) rfl
       obtain ⟨H, m⟩ := id hJ
       have hc24 := H.cells 0 rfl
       exact dp_v (v := (.agg #[(I x10.1), (Sl a17 x10.2.1 c18), (I x10.2.2)])) wn (rv_load (cs := [(I x10.1), (Sl a17 x10.2.1 c18), (I x10.2.2)]) Tryz.underlying34 rfl ti34 e9 rfl hc24) rfl hJ
      trivial) ?_
    refine all_cons (by
      refine ⟨?_, ?_⟩
      ·intro _nm ρ σm hJ hoff hdep
       have e21 : look 27 ρ 21 = (.agg #[(I x10.1), (Sl a17 x10.2.1 c18), (I x10.2.2)]) := hdep 3 rfl rfl 21 rfl
       have e20 := hdep 2 rfl rfl 20 rfl
       obtain ⟨H, m⟩ := id hJ
       refine dp_cx wn (cx_call hc27 (ent_v (cap := [(pt Ew Ey), (pt Fe Ff)]) hc27.fn e20 (by show [look 27 ρ 21] ++ [(pt Ew Ey), (pt Fe Ff)] = _; rw [e21]; rfl)) hn0 (H.sel' [1, 4, 6, 5, 0, 1, 2, 3, 5, 7] rfl rfl : Hp S0 σ0 _ ([_, _, _, _] ++ _))) ?_
       rintro _ σq ⟨_, ⟨rfl, rfl⟩, H2, m2⟩
       exact ⟨_, (), rfl, rfl, ⟨H2.sel' [0, 1, 2, 3, 4, 5, 6, 7] rfl rfl, m.comp m2⟩, stab [0, 1, 2, 3] (by kernel_rfl) ⟨rfl, rfl, rfl, rfl, trivial⟩⟩
      trivial) ?_
    exact all_nil
   ·intro _nm ρ σ28 hJ hoff hrel
    have e2 := look_off (N := 27) (hoff 2 rfl) rfl
    have e7 := look_off (N := 27) (hoff 7 rfl) rfl
    have e12 := look_off (N := 27) (hoff 12 rfl) rfl
    have e13 := look_off (N := 27) (hoff 13 rfl) rfl
    have e14 := look_off (N := 27) (hoff 14 rfl) rfl
    have e19 := hrel 1 rfl 19 rfl
    have e22 := hrel 4 rfl 22 rfl
    obtain ⟨H, -⟩ := (show Hp S0 σ0 σ28 [Ch.bx Ev Ew Ey [(I Et)] Ez Fa, Ch.bx Fd Fe Ff [(Sl Fb Eu Fc)] Fg Fh, Ch.bx n0 b20 0 [(I x10.1), (Sl a17 x10.2.1 c18), (I x10.2.2)] [] [], Ch.ro 0 (Sl a17 x10.2.1 c18) x10.2.1, Ch.bx n0 b1 0 [(I s5.1.1), (Sl a7 s5.1.2 c8)] [] [], Ch.own 0 0 (Sl a7 s5.1.2 c8) s5.1.2, Ch.ro 0 (Sl Fb Eu Fc) Eu, Ch.ro 0 (Sl Ba Az Bb) Az] ∧ Md (fun i => (cov []) i ∨ (cov [Ch.ro 0 (Sl a17 x10.2.1 c18) x10.2.1, Ch.bx Ev Ew Ey [(I Et)] Ez Fa, Ch.bx Fd Fe Ff [(Sl Fb Eu Fc)] Fg Fh, Ch.ro 0 (Sl Fb Eu Fc) Eu]) i) σ22 σ28 from hJ)
    clear hJ Hs
    rw [fr_lookL (L := [(2, (.func (.func 131) #[] #[(pt Ew Ey), (pt Fe Ff)])), (7, (pt b1 0)), (12, (Sl Ba Az Bb)), (13, (I (Az.length : Int))), (14, (I s5.2)), (19, (I x10.1)), (22, (I r25))]) ⟨e2, e7, e12, e13, e14, e19, e22, trivial⟩]
    clear hoff hrel e2 e7 e12 e13 e14 e19 e22
    refine st (v := (.agg #[(I x10.1), (I r25)])) (rv_build (ps := [(0, (I x10.1)), (1, (I r25))]) Tryz.underlying43 ti43 (bp43 Tryz.underlying43) rfl (by kernel_rfl)) ?_
    revert h; refine br fun r29 hx30 h => ?_
    have hc31 := c_impl_nearestHits_offer (Cn := n0) (Cp := b1) (Cq := 0) (Cr := []) (Cs := []) (Cl := a7) (Cm := c8) hx30
    refine st_call (cx_call hc31 (ent_f hc31.fn rfl) hn0 (H.sel' [4, 5, 0, 1, 2, 3, 6, 7] rfl rfl : Hp S0 σ0 _ ([_, _] ++ _))) wn ?_
    rintro _ σ34 ⟨_, ⟨a32, c33, rfl, rfl⟩, H, -⟩
    replace H : Hp _ _ _ [_, _, _, _, _, _, _, _] := H
    replace H : Hp S0 σ0 σ34 [Ch.bx n0 b1 0 [(I r29.1), (Sl a32 r29.2 c33)] [] [], Ch.own 0 0 (Sl a32 r29.2 c33) r29.2, Ch.bx Ev Ew Ey [(I Et)] Ez Fa, Ch.bx Fd Fe Ff [(Sl Fb Eu Fc)] Fg Fh, Ch.ro 0 (Sl Fb Eu Fc) Eu, Ch.ro 0 (Sl Ba Az Bb) Az] := H.sel' [0, 1, 2, 3, 6, 7] rfl rfl
    refine w_end (q_blk (q_then (rg (st (v := (I (w64 (s5.2 + 1)))) (rv_add (a := s5.2) (b := 1) rfl rfl) (sm (I (w64 (s5.2 + 1))) rfl (w_end (q_then ?_)))))))
    obtain rfl := sj h
    exact ⟨_, rfl, _, σ34, a32, c33, fr_join ⟨rfl, rfl, rfl, rfl, rfl, trivial⟩, rfl, H.sel' [0, 1, 2, 4, 3, 5] rfl rfl⟩
  ·replace h := bif_f hb9 h
   refine c_exit (q_then_x (q_then_x (q_blk_hit ?_)))
   obtain rfl := sj h
   obtain rfl := hres _ rfl
   exact ⟨rfl, _, σ6, a7, c8, fr_join ⟨rfl, rfl, trivial⟩, rfl, H.sel' [0, 1, 2, 3, 4] rfl rfl⟩
 ·clear hj
  have h := h'
  clear h' H
  rintro e a w ⟨rfl, ρ, σ35, a36, c37, rfl, rfl, H⟩
  refine q_then (c_seq (rg ?_))
  obtain ⟨σ38, hw39, H, -⟩ := H.pub 1 rfl (Nat.le_refl _)
  rw [← hw39]; clear hw39
  revert h; refine br fun r40 hx41 h => ?_
  have hc42 := c_impl_nearestHits_inOrder (Cn := n0) (Cp := b1) (Cq := 0) (Cr := []) (Cs := []) (Cl := a36) (Cm := c37) hx41
  refine st_call (cx_call hc42 (ent_f hc42.fn rfl) hn0 (H.sel' [1, 0, 0, 2, 3, 4] rfl rfl : Hp S0 σ0 _ ([_, _] ++ _))) wn ?_
  rintro _ σ45 ⟨_, ⟨a43, c44, rfl, rfl⟩, H, -⟩
  replace H : Hp _ _ _ [_, _, _, _, _, _] := H
  refine sa (Sl a43 r40 c44) rfl (w_end (q_then (c_ret ?_)))
  obtain rfl := sj h
  exact fin_ret (v := (Sl a43 r40 c44)) (results_ok Tryz.results56 (res_tmp (v := (Sl a43 r40 c44)) rfl res_nil) rfl) ⟨a43, c44, rfl, rfl⟩ (H.sel' [0, 3, 5] rfl rfl)

theorem c_impl_nearestAmong {Az : List (Int × (List Int) × Int)} {Fi : Int} {Fj : List Int} {Fk : Int} {Ba : Option Addr} {Bb : Nat} {Fl : Option Addr} {Fm : Nat} {r : (List (Int × Int))} (h : M.impl_nearestAmong Az Fi Fj Fk = some r) :
    Cal2 Tryz.prog 69 [(Sl Ba Az Bb), (I Fi), (Sl Fl Fj Fm), (I Fk)] [Ch.ro 0 (Sl Ba Az Bb) Az, Ch.ro 0 (Sl Fl Fj Fm) Fj] (fun n0 v L => ∃ (az1 : Option Addr), ∃ (cz2 : Nat), v = (Sl az1 r cz2) ∧ L = [Ch.own 0 n0 (Sl az1 r cz2) r]) := by
 refine cal2 (n := 13) Tryz.func69 rfl rfl rfl rfl ?_
 intro S0 σ0 n0 hn0 H
 unfold M.impl_nearestAmong at h
 refine c_seq (rg (st_ex (ex_box (cs := [(I Fi)]) H hn0 rfl rfl) wn ?_))
 rintro _ σ2 ⟨b1, rfl, H, -⟩
 refine st_ex (ex_box (cs := [(Sl Fl Fj Fm)]) H hn0 rfl rfl) wn ?_
 rintro _ σ4 ⟨b3, rfl, H, -⟩
 refine sa (.slice none 0 0) rfl (w_end (q_then (c_seq (rg (sm (Sl Ba Az Bb) rfl (sm (I Fk) rfl (st (v := (.func (.func 131) #[] #[(pt b1 0), (pt b3 0)])) (rv_makeFunc (vs := [(pt b1 0), (pt b3 0)]) rfl) ?_)))))))
 revert h; refine br fun r5 hx6 h => ?_
 have hc7 := c_impl_nearestBy__impl_nearestAmong_1 (Ba := Ba) (Bb := Bb) (Ev := n0) (Ew := b1) (Ey := 0) (Ez := []) (Fa := []) (Fd := n0) (Fe := b3) (Ff := 0) (Fg := []) (Fh := []) (Fb := Fl) (Fc := Fm) hx6
 refine st_call (cx_call hc7 (ent_f hc7.fn rfl) hn0 (H.sel' [2, 1, 0, 3, 2, 3] rfl rfl : Hp S0 σ0 _ ([_, _, _, _] ++ _))) wn ?_
 rintro _ σ10 ⟨_, ⟨a8, c9, rfl, rfl⟩, H, -⟩
 replace H : Hp _ _ _ [_, _, _, _, _] := H
 refine sa (Sl a8 r5 c9) rfl (w_end (q_then (c_ret ?_)))
 obtain rfl := sj h
 exact fin_ret (v := (Sl a8 r5 c9)) (results_ok Tryz.results69 (res_tmp (v := (Sl a8 r5 c9)) rfl res_nil) rfl) ⟨a8, c9, rfl, rfl⟩ (H.sel' [0] rfl rfl)

theorem c_impl_validTags {Fn : Int}  {r : Bool} (h : M.impl_validTags Fn = some r) :
    Cal2 Tryz.prog 107 [(I Fn)] [] (fun n0 v L => v = (B r) ∧ L = []) := by
 refine cal2 (n := 9) Tryz.func107 rfl rfl rfl rfl ?_
 intro S0 σ0 n0 hn0 H
 unfold M.impl_validTags at h
 refine c_seq (rg (sa (B false) rfl (w_end (q_then (c_seq (rg (sm (I Fn) rfl (st (v := (B (decide (0 ≤ Fn)))) (rv_geq (a := Fn) (b := 0) rfl rfl) (sm (B (decide (0 ≤ Fn))) rfl ?_)))))))))
 rcases Bool.eq_false_or_eq_true (decide (0 ≤ Fn)) with hb1 | hb1
 ·replace h := bif_t hb1 h
  refine st_g (v := (I Fn)) (congrArg some hb1) (rv_move rfl) (st_g (v := (B (decide (Fn ≤ 15)))) (congrArg some hb1) (rv_leq (a := Fn) (b := 15) rfl rfl) (st (v := (B (decide (Fn ≤ 15)))) (rv_pick_t (congrArg B hb1) rfl) (sa (B (decide (Fn ≤ 15))) rfl (w_end (q_then (c_ret ?_))))))
  obtain rfl := sj h
  exact fin_ret (v := (B (decide (Fn ≤ 15)))) (results_ok Tryz.results107 (res_tmp (v := (B (decide (Fn ≤ 15)))) rfl res_nil) rfl) ⟨rfl, rfl⟩ (H.sel' [] rfl rfl)
 ·replace h := bif_f hb1 h
  refine st_skip (congrArg some hb1) (st_skip (congrArg some hb1) (st (v := (B false)) (rv_pick_f (congrArg B hb1) rfl) (sa (B false) rfl (w_end (q_then (c_ret ?_))))))
  obtain rfl := sj h
  exact fin_ret (v := (B false)) (results_ok Tryz.results107 (res_tmp (v := (B false)) rfl res_nil) rfl) ⟨rfl, rfl⟩ (H.sel' [] rfl rfl)

theorem c_impl_validKey {Fo : Int}  {r : Bool} (h : M.impl_validKey Fo = some r) :
    Cal2 Tryz.prog 155 [(I Fo)] [] (fun n0 v L => v = (B r) ∧ L = []) := by
 refine cal2 (n := 9) Tryz.func155 rfl rfl rfl rfl ?_
 intro S0 σ0 n0 hn0 H
 unfold M.impl_validKey at h
 refine c_seq (rg (sa (B false) rfl (w_end (q_then (c_seq (rg (sm (I Fo) rfl (st (v := (B (decide (1 ≤ Fo)))) (rv_geq (a := Fo) (b := 1) rfl rfl) (sm (B (decide (1 ≤ Fo))) rfl ?_)))))))))
 rcases Bool.eq_false_or_eq_true (decide (1 ≤ Fo)) with hb1 | hb1
 ·replace h := bif_t hb1 h
  refine st_g (v := (I Fo)) (congrArg some hb1) (rv_move rfl) (st_g (v := (B (decide (Fo ≤ 99)))) (congrArg some hb1) (rv_leq (a := Fo) (b := 99) rfl rfl) (st (v := (B (decide (Fo ≤ 99)))) (rv_pick_t (congrArg B hb1) rfl) (sa (B (decide (Fo ≤ 99))) rfl (w_end (q_then (c_ret ?_))))))
  obtain rfl := sj h
  exact fin_ret (v := (B (decide (Fo ≤ 99)))) (results_ok Tryz.results155 (res_tmp (v := (B (decide (Fo ≤ 99)))) rfl res_nil) rfl) ⟨rfl, rfl⟩ (H.sel' [] rfl rfl)
 ·replace h := bif_f hb1 h
  refine st_skip (congrArg some hb1) (st_skip (congrArg some hb1) (st (v := (B false)) (rv_pick_f (congrArg B hb1) rfl) (sa (B false) rfl (w_end (q_then (c_ret ?_))))))
  obtain rfl := sj h
  exact fin_ret (v := (B false)) (results_ok Tryz.results155 (res_tmp (v := (B false)) rfl res_nil) rfl) ⟨rfl, rfl⟩ (H.sel' [] rfl rfl)

theorem c_impl_validItem {Bj : Int × (List Int) × Int} {Bk : Option Addr} {Bl : Nat} {r : Bool} (h : M.impl_validItem Bj = some r) :
    Cal2 Tryz.prog 109 [(.agg #[(I Bj.1), (Sl Bk Bj.2.1 Bl), (I Bj.2.2)])] [Ch.ro 0 (Sl Bk Bj.2.1 Bl) Bj.2.1] (fun n0 v L => v = (B r) ∧ L = []) := by
 refine cal2 (n := 16) Tryz.func109 rfl rfl rfl rfl ?_
 intro S0 σ0 n0 hn0 H
 unfold M.impl_validItem at h
 refine c_seq (rg (st_ex (ex_box (cs := [(I Bj.1), (Sl Bk Bj.2.1 Bl), (I Bj.2.2)]) H hn0 rfl rfl) wn ?_))
 rintro _ σ2 ⟨b1, rfl, H, -⟩
 refine sa (B false) rfl (w_end (q_then (c_seq (rg (st (v := (pt b1 0)) (rv_fieldAddr (off := 0) (ft := 3) Tryz.underlying34 rfl ti3 rfl rfl) ?_)))))
 have hc3 := H.cell (u := (I Bj.1)) (o' := 0) 0 0 rfl rfl rfl
 refine st (v := (I Bj.1)) (rv_load1 Tryz.underlying3 rfl rfl hc3) ?_
 revert h; refine br fun r4 hx5 h => ?_
 have hc6 := c_impl_validKey hx5
 refine st_call (cx_call hc6 (ent_f hc6.fn rfl) hn0 (H.sel' [0, 1] rfl rfl : Hp S0 σ0 _ ([] ++ _))) wn ?_
 rintro _ σ7 ⟨_, ⟨rfl, rfl⟩, H, -⟩
 replace H : Hp _ _ _ [_, _] := H
 refine sm (B r4) rfl ?_
 rcases Bool.eq_false_or_eq_true r4 with hb8 | hb8
 ·replace h := bif_t hb8 h
  refine st_g (v := (pt b1 1)) (congrArg some hb8) (rv_fieldAddr (off := 1) (ft := 27) Tryz.underlying34 rfl ti27 rfl rfl) ?_
  have hc9 := H.cell (u := (Sl Bk Bj.2.1 Bl)) (o' := 1) 0 1 rfl rfl rfl
  refine st_g (v := (Sl Bk Bj.2.1 Bl)) (congrArg some hb8) (rv_load1 Tryz.underlying27 rfl rfl hc9) ?_
  revert h; refine br fun r10 hx11 h => ?_
  have hc12 := c_impl_ValidVector (Bh := Bk) (Bi := Bl) hx11
  refine st_call (cx_call hc12 (ent_f hc12.fn rfl) hn0 (H.sel' [1, 0, 1] rfl rfl : Hp S0 σ0 _ ([_] ++ _))) (wanted_yes rfl (by exact (congrArg some hb8))) ?_
  rintro _ σ13 ⟨_, ⟨rfl, rfl⟩, H, -⟩
  replace H : Hp _ _ _ [_, _] := H
  refine st (v := (B r10)) (rv_pick_t (congrArg B hb8) rfl) (sm (B r10) rfl ?_)
  rcases Bool.eq_false_or_eq_true r10 with hb14 | hb14
  ·replace h := bif_t hb14 h
   refine st_g (v := (pt b1 2)) (congrArg some hb14) (rv_fieldAddr (off := 2) (ft := 3) Tryz.underlying34 rfl ti3 rfl rfl) ?_
   have hc15 := H.cell (u := (I Bj.2.2)) (o' := 2) 0 2 rfl rfl rfl
   refine st_g (v := (I Bj.2.2)) (congrArg some hb14) (rv_load1 Tryz.underlying3 rfl rfl hc15) ?_
   revert h; refine br fun r16 hx17 h => ?_
   have hc18 := c_impl_validTags hx17
   refine st_call (cx_call hc18 (ent_f hc18.fn rfl) hn0 (H.sel' [0, 1] rfl rfl : Hp S0 σ0 _ ([] ++ _))) (wanted_yes rfl (by exact (congrArg some hb14))) ?_
   rintro _ σ19 ⟨_, ⟨rfl, rfl⟩, H, -⟩
   replace H : Hp _ _ _ [_, _] := H
   refine st (v := (B r16)) (rv_pick_t (congrArg B hb14) rfl) (sa (B r16) rfl (w_end (q_then (c_ret ?_))))
   obtain rfl := sj h
   exact fin_ret (v := (B r16)) (results_ok Tryz.results109 (res_tmp (v := (B r16)) rfl res_nil) rfl) ⟨rfl, rfl⟩ (H.sel' [] rfl rfl)
  ·replace h := bif_f hb14 h
   refine st_skip (congrArg some hb14) (st_skip (congrArg some hb14) (st_skip (congrArg some hb14) (st (v := (B false)) (rv_pick_f (congrArg B hb14) rfl) (sa (B false) rfl (w_end (q_then (c_ret ?_)))))))
   obtain rfl := sj h
   exact fin_ret (v := (B false)) (results_ok Tryz.results109 (res_tmp (v := (B false)) rfl res_nil) rfl) ⟨rfl, rfl⟩ (H.sel' [] rfl rfl)
 ·replace h := bif_f hb8 h
  refine st_skip (congrArg some hb8) (st_skip (congrArg some hb8) (st_skip (congrArg some hb8) (st (v := (B false)) (rv_pick_f (congrArg B hb8) rfl) (sm (B false) rfl (st_skip rfl (st_skip rfl (st_skip rfl (st (v := (B false)) (rv_pick_f rfl rfl) (sa (B false) rfl (w_end (q_then ?_)))))))))))
  refine c_ret ?_
  obtain rfl := sj h
  exact fin_ret (v := (B false)) (results_ok Tryz.results109 (res_tmp (v := (B false)) rfl res_nil) rfl) ⟨rfl, rfl⟩ (H.sel' [] rfl rfl)

theorem c_impl_ValidStore {Az : List (Int × (List Int) × Int)} {Ba : Option Addr} {Bb : Nat} {r : Bool} (h : M.impl_ValidStore Az = some r) :
    Cal2 Tryz.prog 46 [(Sl Ba Az Bb)] [Ch.ro 0 (Sl Ba Az Bb) Az] (fun n0 v L => v = (B r) ∧ L = []) := by
 refine cal2 (n := 27) Tryz.func46 rfl rfl rfl rfl ?_
 intro S0 σ0 n0 hn0 H
 unfold M.impl_ValidStore at h
 refine c_seq (rg (sa (B false) rfl (w_end (q_then (c_seq (c_seq (rg (sm (Sl Ba Az Bb) rfl (st (v := (I (Az.length : Int))) (rv_len Tryz.underlying26 rfl) (st (v := (B (decide (16 < (Az.length : Int))))) (rv_gtr (a := (Az.length : Int)) (b := 16) rfl rfl) (w_end ?_)))))))))))
 refine q_then ?_
 refine cd_cond (decide (16 < (Az.length : Int))) rfl (fun hb1 => ?_) (fun hb1 => ?_)
 ·replace h := bif_t hb1 h
  refine c_seq (rg (sa (B false) rfl (w_end (q_then (c_ret (q_then_r ?_))))))
  obtain rfl := sj h
  exact fin_ret (v := (B false)) (results_ok Tryz.results46 (res_tmp (v := (B false)) rfl res_nil) rfl) ⟨rfl, rfl⟩ (H.sel' [] rfl rfl)
 ·replace h := bif_f hb1 h
  refine c_skip (q_then (c_seq (rg (sa (I 0) rfl (w_end (q_then (c_seq (c_seq (rg (sm (Sl Ba Az Bb) rfl (st (v := (I (Az.length : Int))) (rv_len Tryz.underlying26 rfl) ?_)))))))))))
  refine sm (I 0) rfl (w_end (q_then ?_))
  obtain ⟨o2, hj, h'⟩ := bind_some h
  clear h
  refine c_cut (fun e a w => (∃ t, o2 = (.inl t) ∧ e = .normal ∧ ∃ (ρ : Nat → Value) (σ : St), a = fr 27 (updL ρ []) ∧ w = σ.w ∧ Hp S0 σ0 σ []) ∨ (∃ t, o2 = (.inr t) ∧ e = .ret ∧ ∃ (ρ : Nat → Value) (σ : St), a = fr 27 (updL ρ [(2, (B t))]) ∧ w = σ.w ∧ Hp S0 σ0 σ [])) ?_ ?_
  ·clear h'
   rename _ = some o2 => h
   refine c_blk (wp_loopM _ h (fun s3 a w => ∃ (ρ : Nat → Value) (σ : St), a = fr 27 (updL ρ [(3, (I s3.1)), (9, (Sl Ba Az Bb)), (10, (I (Az.length : Int))), (11, (I s3.2))]) ∧ w = σ.w ∧ Hp S0 σ0 σ [Ch.ro 0 (Sl Ba Az Bb) Az]) ⟨_, σ0, fr_join ⟨rfl, rfl, rfl, rfl, trivial⟩, rfl, H.sel' [0] rfl rfl⟩ ?_)
   clear h H
   rintro s3 a w o ⟨ρ, σ4, rfl, rfl, H⟩ h hres
   refine c_seq (rg (st (v := (B (decide (s3.2 < (Az.length : Int))))) (rv_lss (a := s3.2) (b := (Az.length : Int)) rfl rfl) (w_end (q_then (c_seq ?_)))))
   refine cd_cond (decide (s3.2 < (Az.length : Int))) rfl (fun hb5 => ?_) (fun hb5 => ?_)
   ·replace h := bif_t hb5 h
    refine c_skip (q_then (c_seq (c_blk (c_seq (rg ?_)))))
    revert h; refine br fun x6 hx7 h => ?_
    obtain ⟨b9, o10, hi8, -⟩ := (H.ro 0 rfl).ix hx7
    refine st (v := (pt b9 o10)) (rv_ix Tryz.underlying26 ti34 rfl rfl hi8) ?_
    obtain ⟨_, ⟨_, _, rfl, rfl, ⟨_, _, rfl, ⟨_, rfl, hR15⟩, rfl⟩⟩, hl11, hc12⟩ := ((H.ro 0 rfl).at hx7 hi8).cells
    obtain ⟨a13, c14, rfl⟩ := hR15.isSl
    replace H := H.add (d := Ch.ro 0 (Sl a13 x6.2.1 c14) x6.2.1) hR15 (fun _ h => h)
    clear hR15
    refine st (v := (.agg #[(I x6.1), (Sl a13 x6.2.1 c14), (I x6.2.2)])) (rv_load Tryz.underlying34 rfl ti34 rfl hl11 hc12) (st_ex (ex_alloc (cs := [(I 0), (.slice none 0 0), (I 0)]) H hn0 ti34 rfl) wn ?_)
    rintro _ σ17 ⟨b16, rfl, H, -⟩
    refine st_exS (ex_store_box (k := 0) (cs := [(I 0), (.slice none 0 0), (I 0)]) (vs := [(I x6.1), (Sl a13 x6.2.1 c14), (I x6.2.2)]) (cs' := [(I x6.1), (Sl a13 x6.2.1 c14), (I x6.2.2)]) H (i := 0) rfl ti34 rfl rfl rfl rfl rfl (Nat.le_of_ble_eq_true rfl) (by simp [plain]) rfl) wn ?_
    rintro σ18 ⟨H, -⟩
    refine w_end (q_then (c_seq (c_seq ?_)))
    obtain ⟨o19, hj, h'⟩ := bind_some h
    clear h
    refine c_cut (fun e a w => e = .normal ∧ ∃ (ρ : Nat → Value) (σ : St), a = fr 27 (updL ρ [(5, (pt b16 0)), (9, (Sl Ba Az Bb)), (10, (I (Az.length : Int))), (11, (I s3.2)), (23, (B o19))]) ∧ w = σ.w ∧ Hp S0 σ0 σ [Ch.ro 0 (Sl a13 x6.2.1 c14) x6.2.1, Ch.bx n0 b16 0 [(I x6.1), (Sl a13 x6.2.1 c14), (I x6.2.2)] [] [], Ch.ro 0 (Sl Ba Az Bb) Az]) ?_ ?_
    ·clear h'
     rename _ = some o19 => h
     refine rg ?_
     have hc20 := H.cells 0 rfl
     refine st (v := (.agg #[(I x6.1), (Sl a13 x6.2.1 c14), (I x6.2.2)])) (rv_load (cs := [(I x6.1), (Sl a13 x6.2.1 c14), (I x6.2.2)]) Tryz.underlying34 rfl ti34 rfl rfl hc20) ?_
     revert h; refine br fun r21 hx22 h => ?_
     have hc23 := c_impl_validItem (Bk := a13) (Bl := c14) hx22
     refine st_call (cx_call hc23 (ent_f hc23.fn rfl) hn0 (H.sel' [1, 0, 1, 2] rfl rfl : Hp S0 σ0 _ ([_] ++ _))) wn ?_
     rintro _ σ24 ⟨_, ⟨rfl, rfl⟩, H, -⟩
     replace H : Hp _ _ _ [_, _, _] := H
     refine st (v := (B (!r21))) (rv_not rfl) (sm (B (!r21)) rfl ?_)
     rcases Bool.eq_false_or_eq_true (!r21) with hb25 | hb25
     ·replace h := bif_t hb25 h
      refine st_skip (congrArg some hb25) (st_skip (congrArg some hb25) (st_skip (congrArg some hb25) (st_skip (congrArg some hb25) (st (v := (B true)) (rv_pick_t (congrArg B hb25) rfl) (w_end ?_)))))
      obtain rfl := sj h
      exact ⟨rfl, _, σ24, fr_join ⟨rfl, rfl, rfl, rfl, rfl, trivial⟩, rfl, H.sel' [1, 0, 2] rfl rfl⟩
     ·replace h := bif_f hb25 h
      refine st_g (v := (pt b16 0)) (congrArg some hb25) (rv_fieldAddr (off := 0) (ft := 3) Tryz.underlying34 rfl ti3 rfl rfl) ?_
      have hc26 := H.cell (u := (I x6.1)) (o' := 0) 0 0 rfl rfl rfl
      refine st_g (v := (I x6.1)) (congrArg some hb25) (rv_load1 Tryz.underlying3 rfl rfl hc26) (st_g (v := (I s3.1)) (congrArg some hb25) (rv_move rfl) (st_g (v := (B (decide (x6.1 ≤ s3.1)))) (congrArg some hb25) (rv_leq (a := x6.1) (b := s3.1) rfl rfl) (st (v := (B (decide (x6.1 ≤ s3.1)))) (rv_pick_f (congrArg B hb25) rfl) (w_end ?_))))
      obtain rfl := sj h
      exact ⟨rfl, _, σ24, fr_join ⟨rfl, rfl, rfl, rfl, rfl, trivial⟩, rfl, H.sel' [1, 0, 2] rfl rfl⟩
    ·clear hj
     have h := h'
     clear h' H
     rintro e a w ⟨rfl, ρ, σ27, rfl, rfl, H⟩
     refine q_then ?_
     refine cd_cond o19 rfl (fun hb28 => ?_) (fun hb28 => ?_)
     ·replace h := bif_t hb28 h
      refine c_seq (rg (sa (B false) rfl (w_end (q_then (c_ret (q_then_r (q_blk_r (q_then_r (q_then_r (q_blk_r ?_))))))))))
      obtain rfl := sj h
      obtain rfl := hres _ rfl
      exact .inr (⟨_, rfl, rfl, _, σ27, fr_join ⟨rfl, trivial⟩, rfl, H.sel' [] rfl rfl⟩)
     ·replace h := bif_f hb28 h
      refine c_skip (q_then (rg (st (v := (pt b16 0)) (rv_fieldAddr (off := 0) (ft := 3) Tryz.underlying34 rfl ti3 rfl rfl) ?_)))
      have hc29 := H.cell (u := (I x6.1)) (o' := 0) 1 0 rfl rfl rfl
      refine st (v := (I x6.1)) (rv_load1 Tryz.underlying3 rfl rfl hc29) (sa (I x6.1) rfl (w_end (q_blk (q_then (rg (st (v := (I (w64 (s3.2 + 1)))) (rv_add (a := s3.2) (b := 1) rfl rfl) (sm (I (w64 (s3.2 + 1))) rfl (w_end (q_then ?_)))))))))
      obtain rfl := sj h
      exact ⟨_, rfl, _, σ27, fr_join ⟨rfl, rfl, rfl, rfl, trivial⟩, rfl, H.sel' [2] rfl rfl⟩
   ·replace h := bif_f hb5 h
    refine c_exit (q_then_x (q_then_x (q_blk_hit ?_)))
    obtain rfl := sj h
    obtain rfl := hres _ rfl
    exact .inl ⟨_, rfl, rfl, _, σ4, fr_join trivial, rfl, H.sel' [] rfl rfl⟩
  ·clear hj
   have h := h'
   clear h' H
   rintro e a w (⟨t30, rfl, rfl, ρ, σ31, rfl, rfl, H⟩ | ⟨t32, rfl, rfl, ρ, σ33, rfl, rfl, H⟩)
   ·replace h := selim_l h
    refine q_then (c_seq (rg (sa (B true) rfl (w_end (q_then (c_ret ?_))))))
    obtain rfl := sj h
    exact fin_ret (v := (B true)) (results_ok Tryz.results46 (res_tmp (v := (B true)) rfl res_nil) rfl) ⟨rfl, rfl⟩ (H.sel' [] rfl rfl)
   ·replace h := selim_r h
    refine q_then_r ?_
    obtain rfl := sj h
    exact fin_ret (v := (B t32)) (results_ok Tryz.results46 (res_tmp (v := (B t32)) rfl res_nil) rfl) ⟨rfl, rfl⟩ (H.sel' [] rfl rfl)

theorem c_impl_validKind {Du : Int}  {r : Bool} (h : M.impl_validKind Du = some r) :
    Cal2 Tryz.prog 118 [(I Du)] [] (fun n0 v L => v = (B r) ∧ L = []) := by
 refine cal2 (n := 9) Tryz.func118 rfl rfl rfl rfl ?_
 intro S0 σ0 n0 hn0 H
 unfold M.impl_validKind at h
 refine c_seq (rg (sa (B false) rfl (w_end (q_then (c_seq (rg (sm (I Du) rfl (st (v := (B (decide (1 ≤ Du)))) (rv_geq (a := Du) (b := 1) rfl rfl) (sm (B (decide (1 ≤ Du))) rfl ?_)))))))))
 rcases Bool.eq_false_or_eq_true (decide (1 ≤ Du)) with hb1 | hb1
 ·replace h := bif_t hb1 h
  refine st_g (v := (I Du)) (congrArg some hb1) (rv_move rfl) (st_g (v := (B (decide (Du ≤ 4)))) (congrArg some hb1) (rv_leq (a := Du) (b := 4) rfl rfl) (st (v := (B (decide (Du ≤ 4)))) (rv_pick_t (congrArg B hb1) rfl) (sa (B (decide (Du ≤ 4))) rfl (w_end (q_then (c_ret ?_))))))
  obtain rfl := sj h
  exact fin_ret (v := (B (decide (Du ≤ 4)))) (results_ok Tryz.results118 (res_tmp (v := (B (decide (Du ≤ 4)))) rfl res_nil) rfl) ⟨rfl, rfl⟩ (H.sel' [] rfl rfl)
 ·replace h := bif_f hb1 h
  refine st_skip (congrArg some hb1) (st_skip (congrArg some hb1) (st (v := (B false)) (rv_pick_f (congrArg B hb1) rfl) (sa (B false) rfl (w_end (q_then (c_ret ?_))))))
  obtain rfl := sj h
  exact fin_ret (v := (B false)) (results_ok Tryz.results118 (res_tmp (v := (B false)) rfl res_nil) rfl) ⟨rfl, rfl⟩ (H.sel' [] rfl rfl)

theorem c_impl_validLinks {Az : List (Int × (List Int) × Int)} {Fi : Int} {Fp : Int} {Ba : Option Addr} {Bb : Nat} {r : Bool} (h : M.impl_validLinks Az Fi Fp = some r) :
    Cal2 Tryz.prog 88 [(Sl Ba Az Bb), (I Fi), (I Fp)] [Ch.ro 0 (Sl Ba Az Bb) Az] (fun n0 v L => v = (B r) ∧ L = []) := by
 refine cal2 (n := 21) Tryz.func88 rfl rfl rfl rfl ?_
 intro S0 σ0 n0 hn0 H
 unfold M.impl_validLinks at h
 refine c_seq (rg (sa (B false) rfl (w_end (q_then (c_seq (rg (sm (Sl Ba Az Bb) rfl ?_)))))))
 revert h; refine br fun r1 hx2 h => ?_
 have hc3 := c_impl_ValidStore (Ba := Ba) (Bb := Bb) hx2
 refine st_call (cx_call hc3 (ent_f hc3.fn rfl) hn0 (H.sel' [0, 0] rfl rfl : Hp S0 σ0 _ ([_] ++ _))) wn ?_
 rintro _ σ4 ⟨_, ⟨rfl, rfl⟩, H, -⟩
 replace H : Hp _ _ _ [_] := H
 refine sm (B r1) rfl ?_
 rcases Bool.eq_false_or_eq_true r1 with hb5 | hb5
 ·replace h := bif_t hb5 h
  refine st_g (v := (I Fi)) (congrArg some hb5) (rv_move rfl) ?_
  revert h; refine br fun r6 hx7 h => ?_
  have hc8 := c_impl_validKind hx7
  refine st_call (cx_call hc8 (ent_f hc8.fn rfl) hn0 (H.sel' [0] rfl rfl : Hp S0 σ0 _ ([] ++ _))) (wanted_yes rfl (by exact (congrArg some hb5))) ?_
  rintro _ σ9 ⟨_, ⟨rfl, rfl⟩, H, -⟩
  replace H : Hp _ _ _ [_] := H
  refine st (v := (B r6)) (rv_pick_t (congrArg B hb5) rfl) (sm (B r6) rfl ?_)
  rcases Bool.eq_false_or_eq_true r6 with hb10 | hb10
  ·replace h := bif_t hb10 h
   refine st_g (v := (I Fp)) (congrArg some hb10) (rv_move rfl) (st_g (v := (B (decide (1 ≤ Fp)))) (congrArg some hb10) (rv_geq (a := Fp) (b := 1) rfl rfl) (st (v := (B (decide (1 ≤ Fp)))) (rv_pick_t (congrArg B hb10) rfl) (sm (B (decide (1 ≤ Fp))) rfl ?_)))
   rcases Bool.eq_false_or_eq_true (decide (1 ≤ Fp)) with hb11 | hb11
   ·replace h := bif_t hb11 h
    refine st_g (v := (I Fp)) (congrArg some hb11) (rv_move rfl) (st_g (v := (B (decide (Fp ≤ 5)))) (congrArg some hb11) (rv_leq (a := Fp) (b := 5) rfl rfl) (st (v := (B (decide (Fp ≤ 5)))) (rv_pick_t (congrArg B hb11) rfl) (sa (B (decide (Fp ≤ 5))) rfl (w_end (q_then (c_ret ?_))))))
    obtain rfl := sj h
    exact fin_ret (v := (B (decide (Fp ≤ 5)))) (results_ok Tryz.results88 (res_tmp (v := (B (decide (Fp ≤ 5)))) rfl res_nil) rfl) ⟨rfl, rfl⟩ (H.sel' [] rfl rfl)
   ·replace h := bif_f hb11 h
    refine st_skip (congrArg some hb11) (st_skip (congrArg some hb11) (st (v := (B false)) (rv_pick_f (congrArg B hb11) rfl) (sa (B false) rfl (w_end (q_then (c_ret ?_))))))
    obtain rfl := sj h
    exact fin_ret (v := (B false)) (results_ok Tryz.results88 (res_tmp (v := (B false)) rfl res_nil) rfl) ⟨rfl, rfl⟩ (H.sel' [] rfl rfl)
  ·replace h := bif_f hb10 h
   refine st_skip (congrArg some hb10) (st_skip (congrArg some hb10) (st (v := (B false)) (rv_pick_f (congrArg B hb10) rfl) (sm (B false) rfl (st_skip rfl (st_skip rfl (st (v := (B false)) (rv_pick_f rfl rfl) (sa (B false) rfl (w_end (q_then (c_ret ?_))))))))))
   obtain rfl := sj h
   exact fin_ret (v := (B false)) (results_ok Tryz.results88 (res_tmp (v := (B false)) rfl res_nil) rfl) ⟨rfl, rfl⟩ (H.sel' [] rfl rfl)
 ·replace h := bif_f hb5 h
  refine st_skip (congrArg some hb5) (st_skip (congrArg some hb5) (st (v := (B false)) (rv_pick_f (congrArg B hb5) rfl) (sm (B false) rfl (st_skip rfl (st_skip rfl (st (v := (B false)) (rv_pick_f rfl rfl) (sm (B false) rfl (st_skip rfl (st_skip rfl (st (v := (B false)) (rv_pick_f rfl rfl) (sa (B false) rfl ?_)))))))))))
  refine w_end (q_then (c_ret ?_))
  obtain rfl := sj h
  exact fin_ret (v := (B false)) (results_ok Tryz.results88 (res_tmp (v := (B false)) rfl res_nil) rfl) ⟨rfl, rfl⟩ (H.sel' [] rfl rfl)

theorem c_slices_Clone_impl_Item_impl_Item {Ct : List (Int × (List Int) × Int)} {Cu : Option Addr} {Cv : Nat} {r : (List (Int × (List Int) × Int))} (h : M.slices_Clone_impl_Item_impl_Item Ct = some r) :
    Cal2 Tryz.prog 172 [(Sl Cu Ct Cv)] [Ch.ro 0 (Sl Cu Ct Cv) Ct] (fun n0 v L => ∃ (az1 : Option Addr), ∃ (cz2 : Nat), v = (Sl az1 r cz2) ∧ L = [Ch.own n0 0 (Sl az1 r cz2) r]) := by
 refine cal2 (n := 8) Tryz.func172 rfl rfl rfl rfl ?_
 intro S0 σ0 n0 hn0 H
 unfold M.slices_Clone_impl_Item_impl_Item at h
 refine c_seq (rg (sa (.slice none 0 0) rfl (w_end (q_then (c_seq (c_seq (rg (sm (Sl Cu Ct Cv) rfl (st (v := (B Cu.isNone)) (rv_nilS Tryz.underlying26 rfl rfl) (w_end (q_then ?_)))))))))))
 refine cd_cond Cu.isNone rfl (fun hb1 => ?_) (fun hb1 => ?_)
 ·have hq := RS.nilOf hb1 (H.ro 0 rfl)
  subst hq
  replace h : some [] = some r := by simpa [gapp] using h
  refine c_seq (rg (sa (.slice none 0 0) rfl (w_end (q_then (c_ret (q_then_r ?_))))))
  replace H := H.nilOwn (Int × (List Int) × Int) n0 0
  obtain rfl := sj h
  exact fin_ret (v := (.slice none 0 0)) (results_ok Tryz.results172 (res_tmp (v := (.slice none 0 0)) rfl res_nil) rfl) ⟨none, 0, rfl, rfl⟩ (H.sel' [0] rfl rfl)
 ·refine c_skip ?_
  refine q_then (c_seq (rg ?_))
  refine st_ex (ex_buildSlice (el := n0) (xs := ([] : List (Int × (List Int) × Int))) (ps := []) (cs := []) H hn0 Tryz.underlying26 ti34 rfl rfl (by kernel_rfl) (.nil) rfl) wn ?_
  rintro _ σ3 ⟨b2, rfl, H, -⟩
  refine sm (Sl Cu Ct Cv) rfl ?_
  replace H := H.ownLow 0 n0 0 rfl (Nat.le_refl _) (Nat.zero_le _)
  revert h; refine br fun xs4 hx5 h => ?_
  refine st_ex (ex_append H (i := 0) rfl Tryz.underlying26 Tryz.underlying26 ti34 rfl rfl (by decide) (H.ro 1 rfl).rd hx5 hn0 rfl rfl) wn ?_
  rintro _ σ8 ⟨a6, c7, rfl, H, -⟩
  refine sa (Sl a6 xs4 c7) rfl (w_end (q_then (c_ret ?_)))
  obtain rfl := sj h
  exact fin_ret (v := (Sl a6 xs4 c7)) (results_ok Tryz.results172 (res_tmp (v := (Sl a6 xs4 c7)) rfl res_nil) rfl) ⟨a6, c7, rfl, rfl⟩ (H.sel' [0] rfl rfl)

theorem c_impl_hitOf {Bj : Int × (List Int) × Int} {Fi : Int} {Fj : List Int} {Bk : Option Addr} {Bl : Nat} {Fl : Option Addr} {Fm : Nat} {r : (Int × Int)} (h : M.impl_hitOf Bj Fi Fj = some r) :
    Cal2 Tryz.prog 97 [(.agg #[(I Bj.1), (Sl Bk Bj.2.1 Bl), (I Bj.2.2)]), (I Fi), (Sl Fl Fj Fm)] [Ch.ro 0 (Sl Bk Bj.2.1 Bl) Bj.2.1, Ch.ro 0 (Sl Fl Fj Fm) Fj] (fun n0 v L => v = (.agg #[(I r.1), (I r.2)]) ∧ L = []) := by
 refine cal2 (n := 15) Tryz.func97 rfl rfl rfl rfl ?_
 intro S0 σ0 n0 hn0 H
 unfold M.impl_hitOf at h
 refine c_seq (rg (st_ex (ex_box (cs := [(I Bj.1), (Sl Bk Bj.2.1 Bl), (I Bj.2.2)]) H hn0 rfl rfl) wn ?_))
 rintro _ σ2 ⟨b1, rfl, H, -⟩
 refine st_ex (ex_alloc (cs := [(I 0), (I 0)]) H hn0 ti43 rfl) wn ?_
 rintro _ σ4 ⟨b3, rfl, H, -⟩
 refine w_end (q_then (c_seq ?_))
 have hc5 := H.cell (u := (I Bj.1)) (o' := 0) 1 0 rfl rfl rfl
 have hc6 := H.cell (u := (Sl Bk Bj.2.1 Bl)) (o' := 1) 1 1 rfl rfl rfl
 revert h; refine br fun r7 hx8 h => ?_
 have hc9 := c_impl_Distance (Dz := Bk) (Ea := Bl) (Eb := Fl) (Ec := Fm) hx8
 have Hs := H
 refine rg2 (σ := σ4) (Nm := Unit) 7 [6] [[false], [true]] [[(0, 0), (1, 1)], [(0, 0), (1, 1)], [(0, 0)], [(0, 0)], [(0, 0)], [(0, 0)], [(0, 1)]] 1 [fun _ => fun σm => Hp S0 σ0 σm [Ch.bx n0 b3 0 [(I 0), (I 0)] [] [], Ch.bx n0 b1 0 [(I Bj.1), (Sl Bk Bj.2.1 Bl), (I Bj.2.2)] [] [], Ch.ro 0 (Sl Bk Bj.2.1 Bl) Bj.2.1, Ch.ro 0 (Sl Fl Fj Fm) Fj] ∧ Md (cov []) σ4 σm, fun _ => fun σm => Hp S0 σ0 σm [Ch.bx n0 b3 0 [(I 0), (I 0)] [] [], Ch.bx n0 b1 0 [(I Bj.1), (Sl Bk Bj.2.1 Bl), (I Bj.2.2)] [] [], Ch.ro 0 (Sl Bk Bj.2.1 Bl) Bj.2.1, Ch.ro 0 (Sl Fl Fj Fm) Fj] ∧ Md (cov []) σ4 σm] [fun _ => (pt b1 0), fun _ => (I Bj.1), fun _ => (I Fi), fun _ => (pt b1 1), fun _ => (Sl Bk Bj.2.1 Bl), fun _ => (Sl Fl Fj Fm), fun _ => (I r7)] () (by kernel_rfl) (by kernel_rfl) ?_ ?_ ?_
 ·intro σm m0
  exact ⟨H.grow (m0.mono fun _ h => h.elim), m0⟩
 ·refine ac rfl (by
    intro k _nm ρ σm hJ hoff hdep
    have e3 := look_off (N := 15) (hoff 3 rfl) rfl
    exact dp_v (v := (pt b1 0)) wn (rv_fieldAddr (off := 0) (ft := 3) Tryz.underlying34 rfl ti3 rfl e3) rfl hJ) ?_
  refine all_cons (by
    refine ⟨?_, ?_⟩
    ·intro _nm ρ σm hJ hoff hdep
     have e7 := hdep 0 rfl rfl 7 rfl
     obtain ⟨H, m⟩ := id hJ
     have hc5 := H.cell (u := (I Bj.1)) (o' := 0) 1 0 rfl rfl rfl
     exact dp_v (v := (I Bj.1)) wn (rv_load1 Tryz.underlying3 rfl e7 hc5) rfl hJ
    refine ⟨?_, ?_⟩
    ·intro _nm ρ σm hJ hoff hdep
     have e7 := hdep 0 rfl rfl 7 rfl
     obtain ⟨H, m⟩ := id hJ
     have hc5 := H.cell (u := (I Bj.1)) (o' := 0) 1 0 rfl rfl rfl
     exact dp_v (v := (I Bj.1)) wn (rv_load1 Tryz.underlying3 rfl e7 hc5) rfl hJ
    trivial) ?_
  refine ac rfl (by
    intro k _nm ρ σm hJ hoff hdep
    have e1 := look_off (N := 15) (hoff 1 rfl) rfl
    exact dp_v (v := (I Fi)) wn (rv_move e1) rfl hJ) ?_
  refine ac rfl (by
    intro k _nm ρ σm hJ hoff hdep
    have e3 := look_off (N := 15) (hoff 3 rfl) rfl
    exact dp_v (v := (pt b1 1)) wn (rv_fieldAddr (off := 1) (ft := 27) Tryz.underlying34 rfl ti27 rfl e3) rfl hJ) ?_
  refine all_cons (by
    refine ⟨?_, ?_⟩
    ·intro _nm ρ σm hJ hoff hdep
     have e10 := hdep 3 rfl rfl 10 rfl
     obtain ⟨H, m⟩ := id hJ
     have hc6 := H.cell (u := (Sl Bk Bj.2.1 Bl)) (o' := 1) 1 1 rfl rfl rfl
     exact dp_v (v := (Sl Bk Bj.2.1 Bl)) wn (rv_load1 Tryz.underlying27 rfl e10 hc6) rfl hJ
    trivial) ?_
  refine ac rfl (by
    intro k _nm ρ σm hJ hoff hdep
    have e2 := look_off (N := 15) (hoff 2 rfl) rfl
    exact dp_v (v := (Sl Fl Fj Fm)) wn (rv_move e2) rfl hJ) ?_
  refine all_cons (by
    refine ⟨?_, ?_⟩
    ·intro _nm ρ σm hJ hoff hdep
     have e9 : look 15 ρ 9 = (I Fi) := hdep 2 rfl rfl 9 rfl
     have e11 : look 15 ρ 11 = (Sl Bk Bj.2.1 Bl) := hdep 4 rfl rfl 11 rfl
     have e12 : look 15 ρ 12 = (Sl Fl Fj Fm) := hdep 5 rfl rfl 12 rfl
     obtain ⟨H, m⟩ := id hJ
     refine dp_cx wn (cx_call hc9 (ent_f hc9.fn (by show [look 15 ρ 9, look 15 ρ 11, look 15 ρ 12] = _; rw [e9, e11, e12])) hn0 (H.sel' [2, 3, 0, 1, 2, 3] rfl rfl : Hp S0 σ0 _ ([_, _] ++ _))) ?_
     rintro _ σq ⟨_, ⟨rfl, rfl⟩, H2, m2⟩
     exact ⟨_, (), rfl, rfl, ⟨H2.sel' [0, 1, 2, 3] rfl rfl, m.comp0 (m2.mono (fun i h => by simp [cov, Ch.ro] at h))⟩, stab [0, 1, 2, 3, 4, 5] (by kernel_rfl) ⟨rfl, rfl, rfl, rfl, rfl, rfl, trivial⟩⟩
    trivial) ?_
  exact all_nil
 ·intro _nm ρ σ10 hJ hoff hrel
  have e6 := look_off (N := 15) (hoff 6 rfl) rfl
  have e8 := hrel 1 rfl 8 rfl
  have e13 := hrel 6 rfl 13 rfl
  obtain ⟨H, -⟩ := (show Hp S0 σ0 σ10 [Ch.bx n0 b3 0 [(I 0), (I 0)] [] [], Ch.bx n0 b1 0 [(I Bj.1), (Sl Bk Bj.2.1 Bl), (I Bj.2.2)] [] [], Ch.ro 0 (Sl Bk Bj.2.1 Bl) Bj.2.1, Ch.ro 0 (Sl Fl Fj Fm) Fj] ∧ Md (cov []) σ4 σ10 from hJ)
  clear hJ Hs
  rw [fr_lookL (L := [(6, (pt b3 0)), (8, (I Bj.1)), (13, (I r7))]) ⟨e6, e8, e13, trivial⟩]
  clear hoff hrel e6 e8 e13
  refine st (v := (.agg #[(I Bj.1), (I r7)])) (rv_build (ps := [(0, (I Bj.1)), (1, (I r7))]) Tryz.underlying43 ti43 (bp43 Tryz.underlying43) rfl (by kernel_rfl)) ?_
  refine st_exS (ex_store_box (k := 0) (cs := [(I 0), (I 0)]) (vs := [(I Bj.1), (I r7)]) (cs' := [(I Bj.1), (I r7)]) H (i := 0) rfl ti43 rfl rfl rfl rfl rfl (Nat.le_of_ble_eq_true rfl) (by simp [plain]) rfl) wn ?_
  rintro σ11 ⟨H, -⟩
  refine w_end (q_then (c_ret ?_))
  obtain rfl := sj h
  exact fin_ret (v := (.agg #[(I Bj.1), (I r7)])) (results_ok Tryz.results97 (res_cell rfl (run_cellRes (cs := [(I Bj.1), (I r7)]) Tryz.underlying43 rfl ti43 rfl (H.cells 0 rfl)) res_nil) rfl) ⟨rfl, rfl⟩ (H.sel' [] rfl rfl)

theorem c_impl_sortByDistance_1__p3__p24 {Bj : Int × (List Int) × Int} {Cb : Int × (List Int) × Int} {Ee : Int} {Fq : List Int} {Bk : Option Addr} {Bl : Nat} {Fr : Option Addr} {Fs : Nat} {En Eo : Nat} {Ft Fu : Nat} {r : Int} (h : M.impl_sortByDistance_1__p3__p24 Bj Cb Ee Fq = some r) :
    Cal2 Tryz.prog 174 [(.agg #[(I Bj.1), (Sl Bk Bj.2.1 Bl), (I Bj.2.2)]), (.agg #[(I Cb.1), (Sl Fr Cb.2.1 Fs), (I Cb.2.2)]), (pt En Eo), (pt Ft Fu)] [Ch.ro 0 (Sl Bk Bj.2.1 Bl) Bj.2.1, Ch.ro 0 (Sl Fr Cb.2.1 Fs) Cb.2.1, Ch.ro 0 (Sl (some ⟨En, Eo, none⟩) ([Ee] : List Int) 1) ([Ee] : List Int), Ch.ro 0 (Sl (some ⟨Ft, Fu, none⟩) ([Fq] : List (List Int)) 1) ([Fq] : List (List Int))] (fun n0 v L => v = (I r) ∧ L = []) := by
 refine cal2 (n := 16) Tryz.func174 rfl rfl rfl rfl ?_
 intro S0 σ0 n0 hn0 H
 unfold M.impl_sortByDistance_1__p3__p24 at h
 have hxp_2 : gidx ([Ee] : List Int) 0 = some Ee := rfl
 have hip_2 : Ix (Sl (some ⟨En, Eo, none⟩) ([Ee] : List Int) 1) 0 1 En Eo := ix_one
 have hxp_3 : gidx ([Fq] : List (List Int)) 0 = some Fq := rfl
 have hip_3 : Ix (Sl (some ⟨Ft, Fu, none⟩) ([Fq] : List (List Int)) 1) 0 1 Ft Fu := ix_one
 refine c_seq (rg (st_ex (ex_box (cs := [(I Bj.1), (Sl Bk Bj.2.1 Bl), (I Bj.2.2)]) H hn0 rfl rfl) wn ?_))
 rintro _ σ2 ⟨b1, rfl, H, -⟩
 refine st_ex (ex_box (cs := [(I Cb.1), (Sl Fr Cb.2.1 Fs), (I Cb.2.2)]) H hn0 rfl rfl) wn ?_
 rintro _ σ4 ⟨b3, rfl, H, -⟩
 refine sa (I 0) rfl (w_end (q_then (c_seq ?_)))
 have hc5 := H.cells 1 rfl
 have hc6 := ((H.ro 4 rfl).at hxp_2 hip_2).int
 obtain ⟨v10, hc11, hR9⟩ := ((H.ro 5 rfl).at hxp_3 hip_3).slice
 obtain ⟨a7, c8, rfl⟩ := hR9.isSl
 replace H := H.add (d := Ch.ro 0 (Sl a7 Fq c8) Fq) hR9 (fun _ h => h)
 clear hR9
 revert h; refine br fun r12 hx13 h => ?_
 have hc14 := c_impl_hitOf (Bk := Bk) (Bl := Bl) (Fl := a7) (Fm := c8) hx13
 have hc15 := H.cells 1 rfl
 have hc16 := ((H.ro 5 rfl).at hxp_2 hip_2).int
 obtain ⟨v20, hc21, hR19⟩ := ((H.ro 6 rfl).at hxp_3 hip_3).slice
 obtain ⟨a17, c18, rfl⟩ := hR19.isSl
 replace H := H.add (d := Ch.ro 0 (Sl a17 Fq c18) Fq) hR19 (fun _ h => h)
 clear hR19
 have Hs := H
 refine rg2 (σ := σ4) (Nm := Unit) 7 [3] [[false], [true]] [[(0, 0)], [(0, 0)], [(0, 0)], [(0, 1)], [(0, 0), (1, 1)], [(0, 0), (1, 1)], [(0, 0), (1, 1)]] 1 [fun _ => fun σm => Hp S0 σ0 σm [Ch.ro 0 (Sl a17 Fq c18) Fq, Ch.ro 0 (Sl a7 Fq c8) Fq, Ch.bx n0 b3 0 [(I Cb.1), (Sl Fr Cb.2.1 Fs), (I Cb.2.2)] [] [], Ch.bx n0 b1 0 [(I Bj.1), (Sl Bk Bj.2.1 Bl), (I Bj.2.2)] [] [], Ch.ro 0 (Sl Bk Bj.2.1 Bl) Bj.2.1, Ch.ro 0 (Sl Fr Cb.2.1 Fs) Cb.2.1, Ch.ro 0 (Sl (some ⟨En, Eo, none⟩) ([Ee] : List Int) 1) ([Ee] : List Int), Ch.ro 0 (Sl (some ⟨Ft, Fu, none⟩) ([Fq] : List (List Int)) 1) ([Fq] : List (List Int))] ∧ Md (cov []) σ4 σm, fun _ => fun σm => Hp S0 σ0 σm [Ch.ro 0 (Sl a17 Fq c18) Fq, Ch.ro 0 (Sl a7 Fq c8) Fq, Ch.bx n0 b3 0 [(I Cb.1), (Sl Fr Cb.2.1 Fs), (I Cb.2.2)] [] [], Ch.bx n0 b1 0 [(I Bj.1), (Sl Bk Bj.2.1 Bl), (I Bj.2.2)] [] [], Ch.ro 0 (Sl Bk Bj.2.1 Bl) Bj.2.1, Ch.ro 0 (Sl Fr Cb.2.1 Fs) Cb.2.1, Ch.ro 0 (Sl (some ⟨En, Eo, none⟩) ([Ee] : List Int) 1) ([Ee] : List Int), Ch.ro 0 (Sl (some ⟨Ft, Fu, none⟩) ([Fq] : List (List Int)) 1) ([Fq] : List (List Int))] ∧ Md (cov []) σ4 σm] [fun _ => (.agg #[(I Bj.1), (Sl Bk Bj.2.1 Bl), (I Bj.2.2)]), fun _ => (I Ee), fun _ => (Sl a7 Fq c8), fun _ => (.agg #[(I r12.1), (I r12.2)]), fun _ => (.agg #[(I Cb.1), (Sl Fr Cb.2.1 Fs), (I Cb.2.2)]), fun _ => (I Ee), fun _ => (Sl a17 Fq c18)] () (by kernel_rfl) (by kernel_rfl) ?_ ?_ ?_
 ·intro σm m0
  exact ⟨H.grow (m0.mono fun _ h => h.elim), m0⟩
 ·refine all_cons (by
    refine ⟨?_, ?_⟩
    ·intro _nm ρ σm hJ hoff hdep
     have e4 := look_off (N := 16) (hoff 4 rfl) rfl
     obtain ⟨H, m⟩ := id hJ
     have hc5 := H.cells 3 rfl
     exact dp_v (v := (.agg #[(I Bj.1), (Sl Bk Bj.2.1 Bl), (I Bj.2.2)])) wn (rv_load (cs := [(I Bj.1), (Sl Bk Bj.2.1 Bl), (I Bj.2.2)]) Tryz.underlying34 rfl ti34 e4 rfl hc5) rfl hJ
    trivial) ?_
  refine all_cons (by
    refine ⟨?_, ?_⟩
    ·intro _nm ρ σm hJ hoff hdep
     have e2 := look_off (N := 16) (hoff 2 rfl) rfl
     obtain ⟨H, m⟩ := id hJ
     replace hc6 := (Hs.ro 6 rfl).hmd hxp_2 hip_2 (k := 0) (by decide) hc6 m
     exact dp_v (v := (I Ee)) wn (rv_load1 Tryz.underlying3 rfl e2 hc6) rfl hJ
    trivial) ?_
  refine all_cons (by
    refine ⟨?_, ?_⟩
    ·intro _nm ρ σm hJ hoff hdep
     have e3 := look_off (N := 16) (hoff 3 rfl) rfl
     obtain ⟨H, m⟩ := id hJ
     replace hc11 := (Hs.ro 7 rfl).hmd hxp_3 hip_3 (k := 0) (by decide) hc11 m
     exact dp_v (v := (Sl a7 Fq c8)) wn (rv_load1 Tryz.underlying27 rfl e3 hc11) rfl hJ
    trivial) ?_
  refine all_cons (by
    refine ⟨?_, ?_⟩
    ·intro _nm ρ σm hJ hoff hdep
     have e7 : look 16 ρ 7 = (.agg #[(I Bj.1), (Sl Bk Bj.2.1 Bl), (I Bj.2.2)]) := hdep 0 rfl rfl 7 rfl
     have e8 : look 16 ρ 8 = (I Ee) := hdep 1 rfl rfl 8 rfl
     have e9 : look 16 ρ 9 = (Sl a7 Fq c8) := hdep 2 rfl rfl 9 rfl
     obtain ⟨H, m⟩ := id hJ
     refine dp_cx wn (cx_call hc14 (ent_f hc14.fn (by show [look 16 ρ 7, look 16 ρ 8, look 16 ρ 9] = _; rw [e7, e8, e9])) hn0 (H.sel' [4, 1, 0, 1, 2, 3, 4, 5, 6, 7] rfl rfl : Hp S0 σ0 _ ([_, _] ++ _))) ?_
     rintro _ σq ⟨_, ⟨rfl, rfl⟩, H2, m2⟩
     exact ⟨_, (), rfl, rfl, ⟨H2.sel' [0, 1, 2, 3, 4, 5, 6, 7] rfl rfl, m.comp0 (m2.mono (fun i h => by simp [cov, Ch.ro] at h))⟩, stab [0, 1, 2, 4, 5, 6] (by kernel_rfl) ⟨rfl, rfl, rfl, rfl, rfl, rfl, trivial⟩⟩
    trivial) ?_
  refine all_cons (by
    refine ⟨?_, ?_⟩
    ·intro _nm ρ σm hJ hoff hdep
     have e5 := look_off (N := 16) (hoff 5 rfl) rfl
     obtain ⟨H, m⟩ := id hJ
     have hc15 := H.cells 2 rfl
     exact dp_v (v := (.agg #[(I Cb.1), (Sl Fr Cb.2.1 Fs), (I Cb.2.2)])) wn (rv_load (cs := [(I Cb.1), (Sl Fr Cb.2.1 Fs), (I Cb.2.2)]) Tryz.underlying34 rfl ti34 e5 rfl hc15) rfl hJ
    refine ⟨?_, ?_⟩
    ·intro _nm ρ σm hJ hoff hdep
     have e5 := look_off (N := 16) (hoff 5 rfl) rfl
     obtain ⟨H, m⟩ := id hJ
     have hc15 := H.cells 2 rfl
     exact dp_v (v := (.agg #[(I Cb.1), (Sl Fr Cb.2.1 Fs), (I Cb.2.2)])) wn (rv_load (cs := [(I Cb.1), (Sl Fr Cb.2.1 Fs), (I Cb.2.2)]) Tryz.underlying34 rfl ti34 e5 rfl hc15) rfl hJ
    trivial) ?_
  refine all_cons (by
    refine ⟨?_, ?_⟩
    ·intro _nm ρ σm hJ hoff hdep
     have e2 := look_off (N := 16) (hoff 2 rfl) rfl
     obtain ⟨H, m⟩ := id hJ
     replace hc16 := (Hs.ro 6 rfl).hmd hxp_2 hip_2 (k := 0) (by decide) hc16 m
     exact dp_v (v := (I Ee)) wn (rv_load1 Tryz.underlying3 rfl e2 hc16) rfl hJ
    refine ⟨?_, ?_⟩
    ·intro _nm ρ σm hJ hoff hdep
     have e2 := look_off (N := 16) (hoff 2 rfl) rfl
     obtain ⟨H, m⟩ := id hJ
     replace hc16 := (Hs.ro 6 rfl).hmd hxp_2 hip_2 (k := 0) (by decide) hc16 m
     exact dp_v (v := (I Ee)) wn (rv_load1 Tryz.underlying3 rfl e2 hc16) rfl hJ
    trivial) ?_
  refine all_cons (by
    refine ⟨?_, ?_⟩
    ·intro _nm ρ σm hJ hoff hdep
     have e3 := look_off (N := 16) (hoff 3 rfl) rfl
     obtain ⟨H, m⟩ := id hJ
     replace hc21 := (Hs.ro 7 rfl).hmd hxp_3 hip_3 (k := 0) (by decide) hc21 m
     exact dp_v (v := (Sl a17 Fq c18)) wn (rv_load1 Tryz.underlying27 rfl e3 hc21) rfl hJ
    refine ⟨?_, ?_⟩
    ·intro _nm ρ σm hJ hoff hdep
     have e3 := look_off (N := 16) (hoff 3 rfl) rfl
     obtain ⟨H, m⟩ := id hJ
     replace hc21 := (Hs.ro 7 rfl).hmd hxp_3 hip_3 (k := 0) (by decide) hc21 m
     exact dp_v (v := (Sl a17 Fq c18)) wn (rv_load1 Tryz.underlying27 rfl e3 hc21) rfl hJ
    trivial) ?_
  exact all_nil
 ·intro _nm ρ σ22 hJ hoff hrel
  have e10 := hrel 3 rfl 10 rfl
  have e11 := hrel 4 rfl 11 rfl
  have e12 := hrel 5 rfl 12 rfl
  have e13 := hrel 6 rfl 13 rfl
  obtain ⟨H, -⟩ := (show Hp S0 σ0 σ22 [Ch.ro 0 (Sl a17 Fq c18) Fq, Ch.ro 0 (Sl a7 Fq c8) Fq, Ch.bx n0 b3 0 [(I Cb.1), (Sl Fr Cb.2.1 Fs), (I Cb.2.2)] [] [], Ch.bx n0 b1 0 [(I Bj.1), (Sl Bk Bj.2.1 Bl), (I Bj.2.2)] [] [], Ch.ro 0 (Sl Bk Bj.2.1 Bl) Bj.2.1, Ch.ro 0 (Sl Fr Cb.2.1 Fs) Cb.2.1, Ch.ro 0 (Sl (some ⟨En, Eo, none⟩) ([Ee] : List Int) 1) ([Ee] : List Int), Ch.ro 0 (Sl (some ⟨Ft, Fu, none⟩) ([Fq] : List (List Int)) 1) ([Fq] : List (List Int))] ∧ Md (cov []) σ4 σ22 from hJ)
  clear hJ Hs
  rw [fr_lookL (L := [(10, (.agg #[(I r12.1), (I r12.2)])), (11, (.agg #[(I Cb.1), (Sl Fr Cb.2.1 Fs), (I Cb.2.2)])), (12, (I Ee)), (13, (Sl a17 Fq c18))]) ⟨e10, e11, e12, e13, trivial⟩]
  clear hoff hrel e10 e11 e12 e13
  revert h; refine br fun r23 hx24 h => ?_
  have hc25 := c_impl_hitOf (Bk := Fr) (Bl := Fs) (Fl := a17) (Fm := c18) hx24
  refine st_call (cx_call hc25 (ent_f hc25.fn rfl) hn0 (H.sel' [5, 0, 0, 1, 2, 3, 4, 5, 6, 7] rfl rfl : Hp S0 σ0 _ ([_, _] ++ _))) wn ?_
  rintro _ σ26 ⟨_, ⟨rfl, rfl⟩, H, -⟩
  replace H : Hp _ _ _ [_, _, _, _, _, _, _, _] := H
  replace H : Hp S0 σ0 σ26 [] := H.sel' [] rfl rfl
  revert h; refine br fun r27 hx28 h => ?_
  have hc29 := c_impl_compareHits hx28
  refine st_call (cx_call hc29 (ent_f hc29.fn rfl) hn0 (H.sel' [] rfl rfl : Hp S0 σ0 _ ([] ++ _))) wn ?_
  rintro _ σ30 ⟨_, ⟨rfl, rfl⟩, H, -⟩
  replace H : Hp _ _ _ [] := H
  refine sa (I r27) rfl (w_end (q_then (c_ret ?_)))
  obtain rfl := sj h
  exact fin_ret (v := (I r27)) (results_ok Tryz.results174 (res_tmp (v := (I r27)) rfl res_nil) rfl) ⟨rfl, rfl⟩ (H.sel' [] rfl rfl)

def sort173_ren : Go.Shelf.Ren := ⟨fun | 6 => 173 | 15 => 149 | 14 => 196 | 28 => 186 | 29 => 187 | 20 => 204 | 21 => 205 | 22 => 206 | 23 => 207 | 24 => 208 | 25 => 209 | 26 => 210 | 27 => 211 | 46 => 221 | 47 => 198 | 48 => 199 | 49 => 222 | 50 => 223 | 57 => 227 | n => n, fun | 22 => 26 | 24 => 34 | 25 => 167 | 3 => 3 | 39 => 150 | 0 => 0 | 53 => 176 | 55 => 178 | 4 => 4 | 46 => 170 | 45 => 169 | 50 => 113 | 5 => 5 | 9 => 9 | 66 => 190 | 70 => 194 | 76 => 203 | 77 => 204 | n => n, fun | n => n⟩
theorem sort173 : Go.Proofs.SlLaysF0.n6 Tryz.prog sort173_ren := {
  mixed := by kernel_rfl
  f6 := ⟨Tryz.f173.name, by decide, Tryz.func173.trans (congrArg some (by kernel_rfl))⟩
  f14 := ⟨Tryz.f196.name, by decide, Tryz.func196.trans (congrArg some (by kernel_rfl))⟩
  f15 := Tryz.func149.trans (congrArg some (by kernel_rfl))
  f20 := ⟨Tryz.f204.name, by decide, Tryz.func204.trans (congrArg some (by kernel_rfl))⟩
  f21 := ⟨Tryz.f205.name, by decide, Tryz.func205.trans (congrArg some (by kernel_rfl))⟩
  f22 := ⟨Tryz.f206.name, by decide, Tryz.func206.trans (congrArg some (by kernel_rfl))⟩
  f23 := ⟨Tryz.f207.name, by decide, Tryz.func207.trans (congrArg some (by kernel_rfl))⟩
  f24 := ⟨Tryz.f208.name, by decide, Tryz.func208.trans (congrArg some (by kernel_rfl))⟩
  f25 := ⟨Tryz.f209.name, by decide, Tryz.func209.trans (congrArg some (by kernel_rfl))⟩
  f26 := ⟨Tryz.f210.name, by decide, Tryz.func210.trans (congrArg some (by kernel_rfl))⟩
  f27 := ⟨Tryz.f211.name, by decide, Tryz.func211.trans (congrArg some (by kernel_rfl))⟩
  f28 := Tryz.func186.trans (congrArg some (by kernel_rfl))
  f29 := Tryz.func187.trans (congrArg some (by kernel_rfl))
  f46 := ⟨Tryz.f221.name, by decide, Tryz.func221.trans (congrArg some (by kernel_rfl))⟩
  f47 := Tryz.func198.trans (congrArg some (by kernel_rfl))
  f48 := Tryz.func199.trans (congrArg some (by kernel_rfl))
  f49 := ⟨Tryz.f222.name, by decide, Tryz.func222.trans (congrArg some (by kernel_rfl))⟩
  f50 := ⟨Tryz.f223.name, by decide, Tryz.func223.trans (congrArg some (by kernel_rfl))⟩
  f57 := ⟨Tryz.f227.name, by decide, Tryz.func227.trans (congrArg some (by kernel_rfl))⟩
  t0 := Tryz.underlying0
  a0 := Tryz.isAgg0
  z0 := Tryz.sizeOf0
  v0 := Tryz.zeroValue0
  t3 := Tryz.underlying3
  a3 := Tryz.isAgg3
  z3 := Tryz.sizeOf3
  v3 := Tryz.zeroValue3
  t4 := Tryz.underlying4
  a4 := Tryz.isAgg4
  z4 := Tryz.sizeOf4
  v4 := Tryz.zeroValue4
  t5 := Tryz.underlying5
  a5 := Tryz.isAgg5
  z5 := Tryz.sizeOf5
  v5 := Tryz.zeroValue5
  t9 := Tryz.underlying9
  a9 := Tryz.isAgg9
  z9 := Tryz.sizeOf9
  v9 := Tryz.zeroValue9
  t22 := Tryz.underlying26
  a22 := Tryz.isAgg26
  z22 := Tryz.sizeOf26
  v22 := Tryz.zeroValue26
  t25 := Tryz.underlying167
  a25 := Tryz.isAgg167
  z25 := Tryz.sizeOf167
  v25 := Tryz.zeroValue167
  t39 := Tryz.underlying150
  a39 := Tryz.isAgg150
  z39 := Tryz.sizeOf150
  v39 := Tryz.zeroValue150
  t45 := Tryz.underlying169
  a45 := Tryz.isAgg169
  z45 := Tryz.sizeOf169
  v45 := Tryz.zeroValue169
  t46 := Tryz.underlying170
  a46 := Tryz.isAgg170
  z46 := Tryz.sizeOf170
  v46 := Tryz.zeroValue170
  t50 := Tryz.underlying113
  a50 := Tryz.isAgg113
  z50 := Tryz.sizeOf113
  v50 := Tryz.zeroValue113
  t53 := Tryz.underlying176
  a53 := Tryz.isAgg176
  z53 := Tryz.sizeOf176
  v53 := Tryz.zeroValue176
  t55 := Tryz.underlying178
  a55 := Tryz.isAgg178
  z55 := Tryz.sizeOf178
  v55 := Tryz.zeroValue178
  t66 := Tryz.underlying190
  a66 := Tryz.isAgg190
  z66 := Tryz.sizeOf190
  v66 := Tryz.zeroValue190
  t70 := Tryz.underlying194
  a70 := Tryz.isAgg194
  z70 := Tryz.sizeOf194
  v70 := Tryz.zeroValue194
  t76 := Tryz.underlying203
  a76 := Tryz.isAgg203
  z76 := Tryz.sizeOf203
  v76 := Tryz.zeroValue203
  t77 := Tryz.underlying204
  a77 := Tryz.isAgg204
  z77 := Tryz.sizeOf204
  v77 := Tryz.zeroValue204 }

theorem c_slices_SortFunc_impl_Item_impl_Item__impl_sortByDistance_1 {Bj : List (Int × (List Int) × Int)} {Fv : Int} {Fw : List Int} {Dq : Option Addr} {Dr : Nat} {Fx Fy Ga : Nat} {Gb Gc : List Value} {Gd : Option Addr} {Ge : Nat} {Gf Gg Gh : Nat} {Gi Gj : List Value} {r : List (Int × (List Int) × Int)} (h : M.slices_SortFunc_impl_Item_impl_Item__impl_sortByDistance_1 Bj Fv Fw = some r) :
    Cal2 Tryz.prog 173 [(Sl Dq Bj Dr), (.func (.func 174) #[] #[(pt Fy Ga), (pt Gg Gh)])] [Ch.own 0 0 (Sl Dq Bj Dr) Bj, Ch.bx Fx Fy Ga [(I Fv)] Gb Gc, Ch.bx Gf Gg Gh [(Sl Gd Fw Ge)] Gi Gj, Ch.ro 0 (Sl Gd Fw Ge) Fw] (fun n0 v L => v = (.tuple #[]) ∧ L = [Ch.own 0 0 (Sl Dq r Dr) r, Ch.bx Fx Fy Ga [(I Fv)] Gb Gc, Ch.bx Gf Gg Gh [(Sl Gd Fw Ge)] Gi Gj] ∧ r.length = Bj.length) := by
 obtain ⟨hn, hs, hL, rfl⟩ := sortD_some h
 have hE : ∀ σ σ' : St, Ext σ σ' → (RS 0 σ (Sl (some ⟨Fy, Ga, none⟩) ([Fv] : List Int) 1) ([Fv] : List Int) ∧ RS 0 σ (Sl (some ⟨Gg, Gh, none⟩) ([Fw] : List (List Int)) 1) ([Fw] : List (List Int)) ∧ RS 0 σ (Sl Gd Fw Ge) Fw) → (RS 0 σ' (Sl (some ⟨Fy, Ga, none⟩) ([Fv] : List Int) 1) ([Fv] : List Int) ∧ RS 0 σ' (Sl (some ⟨Gg, Gh, none⟩) ([Fw] : List (List Int)) 1) ([Fw] : List (List Int)) ∧ RS 0 σ' (Sl Gd Fw Ge) Fw) := fun σ σ' hE hp => ⟨hp.1.ext hE, hp.2.1.ext hE, hp.2.2.ext hE⟩
 have hB : ∀ σ : St, allAs σ [Ch.bx Fx Fy Ga [(I Fv)] Gb Gc, Ch.bx Gf Gg Gh [(Sl Gd Fw Ge)] Gi Gj, Ch.ro 0 (Sl Gd Fw Ge) Fw] → apart [Ch.bx Fx Fy Ga [(I Fv)] Gb Gc, Ch.bx Gf Gg Gh [(Sl Gd Fw Ge)] Gi Gj, Ch.ro 0 (Sl Gd Fw Ge) Fw] → ∃ σp, Pb (cov [Ch.bx Fx Fy Ga [(I Fv)] Gb Gc, Ch.bx Gf Gg Gh [(Sl Gd Fw Ge)] Gi Gj, Ch.ro 0 (Sl Gd Fw Ge) Fw]) σ σp ∧ (RS 0 σp (Sl (some ⟨Fy, Ga, none⟩) ([Fv] : List Int) 1) ([Fv] : List Int) ∧ RS 0 σp (Sl (some ⟨Gg, Gh, none⟩) ([Fw] : List (List Int)) 1) ([Fw] : List (List Int)) ∧ RS 0 σp (Sl Gd Fw Ge) Fw) := by
     intro σ hA hP
     obtain ⟨σ0, p0, r0, a0⟩ := pubBox (α := Int) (x := Fv) hA hP (by exact rfl)
     obtain ⟨σ1, p1, r1, a1⟩ := pubBox (α := List Int) (x := Fw) a0 hP.2 (by exact ⟨_, rfl, (a0.2.1 : RS 0 σ0 (Sl Gd Fw Ge) Fw)⟩)
     exact ⟨σ1, (p0.trans p1).mono (fun i h => h.elim (fun h => .inl h) (fun h => .inr (.inl h))), (r0.ext p1.md.ext), r1, a1.1⟩
 have hC : ∀ σ : St, (RS 0 σ (Sl (some ⟨Fy, Ga, none⟩) ([Fv] : List Int) 1) ([Fv] : List Int) ∧ RS 0 σ (Sl (some ⟨Gg, Gh, none⟩) ([Fw] : List (List Int)) 1) ([Fw] : List (List Int)) ∧ RS 0 σ (Sl Gd Fw Ge) Fw) → ∀ x ∈ Bj, ∀ y ∈ Bj, ∀ cx cy, Rp.rp 0 σ cx x → Rp.rp 0 σ cy y → Calls Tryz.prog 174 ([Value.agg cx.toArray, Value.agg cy.toArray] ++ [(pt Fy Ga), (pt Gg Gh)]).toArray σ.w fun e w' => e = .returned (I ((M.impl_sortByDistance_1__p3__p24 (x.1, x.2.1, x.2.2) (y.1, y.2.1, y.2.2) Fv Fw).getD 0)) ∧ ∃ q os, w' = Go.Sort.grow (σ.w.drewN q) os := by
     intro σ hp x hx y hy cx cy rx ry
     obtain ⟨r, hr⟩ := hs x hx y hy
     obtain ⟨_, _, rfl, rfl, ⟨_, _, rfl, ⟨_, rfl, hRx_1⟩, rfl⟩⟩ := rx
     obtain ⟨_, _, rfl, rfl, ⟨_, _, rfl, ⟨_, rfl, hRy_1⟩, rfl⟩⟩ := ry
     obtain ⟨ax_1, cx_1, rfl⟩ := hRx_1.isSl
     obtain ⟨ay_1, cy_1, rfl⟩ := hRy_1.isSl
     have hc := c_impl_sortByDistance_1__p3__p24 (Bk := ax_1) (Bl := cx_1) (Fr := ay_1) (Fs := cy_1) (En := Fy) (Eo := Ga) (Ft := Gg) (Fu := Gh) hr
     refine (hc.runs σ 0 (Nat.zero_le _) (Hp.begin ⟨hRx_1, ⟨hRy_1, ⟨hp.1, ⟨hp.2.1, trivial⟩⟩⟩⟩ ⟨fun _ h => h.elim, ⟨fun _ h => h.elim, ⟨fun _ h => h.elim, ⟨fun _ h => h.elim, trivial⟩⟩⟩⟩)).mono ?_
     rintro e w' ⟨v, σ', L', rfl, rfl, ⟨rfl, -⟩, H⟩
     exact ⟨by rw [hr]; rfl, (H.md.mono fun i => fun h => h.elim (fun h => h.elim) (fun h => h.elim (fun h => h.elim) (fun h => h.elim (fun h => h.elim) (fun h => h.elim (fun h => h.elim) (fun h => h))))).grown⟩
 refine (sort_cal2 (α := (Int × (List Int) × Int)) sort173 Tryz.isAgg34 Tryz.sizeOf34 (xs := Bj) (a := Dq) (c := Dr) (g := 174) (cb := [(pt Fy Ga), (pt Gg Gh)]) (B := [Ch.bx Fx Fy Ga [(I Fv)] Gb Gc, Ch.bx Gf Gg Gh [(Sl Gd Fw Ge)] Gi Gj, Ch.ro 0 (Sl Gd Fw Ge) Fw]) (fun x y => (M.impl_sortByDistance_1__p3__p24 (x.1, x.2.1, x.2.2) (y.1, y.2.1, y.2.2) Fv Fw).getD 0) hL hn ⟨_, _, Tryz.func174, rfl, rfl⟩ _ hE hB hC).conv ?_
 rintro m v L ⟨rfl, rfl⟩
 exact ⟨_, ⟨rfl, rfl, sortL_len⟩, fun H => H.sel' [0, 1, 2] rfl rfl⟩

theorem c_impl_sortByDistance {Az : List (Int × (List Int) × Int)} {Fi : Int} {Fj : List Int} {Ba : Option Addr} {Bb : Nat} {Fl : Option Addr} {Fm : Nat} {r : (List (Int × (List Int) × Int))} (h : M.impl_sortByDistance Az Fi Fj = some r) :
    Cal2 Tryz.prog 141 [(Sl Ba Az Bb), (I Fi), (Sl Fl Fj Fm)] [Ch.ro 0 (Sl Ba Az Bb) Az, Ch.ro 0 (Sl Fl Fj Fm) Fj] (fun n0 v L => ∃ (az1 : Option Addr), ∃ (cz2 : Nat), v = (Sl az1 r cz2) ∧ L = [Ch.own 0 0 (Sl az1 r cz2) r]) := by
 refine cal2 (n := 14) Tryz.func141 rfl rfl rfl rfl ?_
 intro S0 σ0 n0 hn0 H
 unfold M.impl_sortByDistance at h
 refine c_seq (rg (st_ex (ex_box (cs := [(I Fi)]) H hn0 rfl rfl) wn ?_))
 rintro _ σ2 ⟨b1, rfl, H, -⟩
 refine st_ex (ex_box (cs := [(Sl Fl Fj Fm)]) H hn0 rfl rfl) wn ?_
 rintro _ σ4 ⟨b3, rfl, H, -⟩
 refine sa (.slice none 0 0) rfl (w_end (q_then (c_seq (rg (sm (Sl Ba Az Bb) rfl ?_)))))
 revert h; refine br fun r5 hx6 h => ?_
 have hc7 := c_slices_Clone_impl_Item_impl_Item (Cu := Ba) (Cv := Bb) hx6
 refine st_call (cx_call hc7 (ent_f hc7.fn rfl) hn0 (H.sel' [2, 0, 1, 2, 3] rfl rfl : Hp S0 σ0 _ ([_] ++ _))) wn ?_
 rintro _ σ10 ⟨_, ⟨a8, c9, rfl, rfl⟩, H, -⟩
 replace H : Hp _ _ _ [_, _, _, _, _] := H
 refine sa (Sl a8 r5 c9) rfl (w_end (q_then (c_seq (rg (sm (Sl a8 r5 c9) rfl (st (v := (.func (.func 174) #[] #[(pt b1 0), (pt b3 0)])) (rv_makeFunc (vs := [(pt b1 0), (pt b3 0)]) rfl) ?_))))))
 replace H := H.ownLow 0 0 0 rfl (Nat.zero_le _) (Nat.zero_le _)
 revert h; refine br fun r11 hx12 h => ?_
 have hc13 := c_slices_SortFunc_impl_Item_impl_Item__impl_sortByDistance_1 (Dq := a8) (Dr := c9) (Fx := n0) (Fy := b1) (Ga := 0) (Gb := []) (Gc := []) (Gf := n0) (Gg := b3) (Gh := 0) (Gi := []) (Gj := []) (Gd := Fl) (Ge := Fm) hx12
 refine st_call (cx_call hc13 (ent_f hc13.fn rfl) hn0 (H.sel' [0, 2, 1, 4, 3, 4] rfl rfl : Hp S0 σ0 _ ([_, _, _, _] ++ _))) wn ?_
 rintro _ σ15 ⟨_, ⟨rfl, rfl, hn14⟩, H, -⟩
 replace H : Hp _ _ _ [_, _, _, _, _] := H
 have hsl : (Sl a8 r5 c9) = (Sl a8 r11 c9) := sl_len hn14.symm
 try rw [hsl]
 try rw [hsl] at H
 clear hsl
 refine w_end (q_then (c_seq (rg (sm (Sl a8 r11 c9) rfl (sa (Sl a8 r11 c9) rfl (w_end (q_then (c_ret ?_))))))))
 obtain rfl := sj h
 exact fin_ret (v := (Sl a8 r11 c9)) (results_ok Tryz.results141 (res_tmp (v := (Sl a8 r11 c9)) rfl res_nil) rfl) ⟨a8, c9, rfl, rfl⟩ (H.sel' [0] rfl rfl)

theorem c_impl_linkItems_1__p_impl_Item {Gk : Int × (List Int) × Int} {Ed : Int × (List Int) × Int} {Gl : Option Addr} {Gm : Nat} {Gn : Option Addr} {Gp : Nat} {Ef Eg Eh : Nat} {Ei Ej : List Value} {r : Bool} (h : M.impl_linkItems_1__p_impl_Item Gk Ed = some r) :
    Cal2 Tryz.prog 140 [(.agg #[(I Gk.1), (Sl Gl Gk.2.1 Gm), (I Gk.2.2)]), (pt Eg Eh)] [Ch.ro 0 (Sl Gl Gk.2.1 Gm) Gk.2.1, Ch.bx Ef Eg Eh [(I Ed.1), (Sl Gn Ed.2.1 Gp), (I Ed.2.2)] Ei Ej, Ch.ro 0 (Sl Gn Ed.2.1 Gp) Ed.2.1] (fun n0 v L => v = (B r) ∧ L = [Ch.bx Ef Eg Eh [(I Ed.1), (Sl Gn Ed.2.1 Gp), (I Ed.2.2)] Ei Ej]) := by
 refine cal2 (n := 9) Tryz.func140 rfl rfl rfl rfl ?_
 intro S0 σ0 n0 hn0 H
 unfold M.impl_linkItems_1__p_impl_Item at h
 refine c_seq (rg (st_ex (ex_box (cs := [(I Gk.1), (Sl Gl Gk.2.1 Gm), (I Gk.2.2)]) H hn0 rfl rfl) wn ?_))
 rintro _ σ2 ⟨b1, rfl, H, -⟩
 refine sa (B false) rfl (w_end (q_then (c_seq (rg (st (v := (pt b1 0)) (rv_fieldAddr (off := 0) (ft := 3) Tryz.underlying34 rfl ti3 rfl rfl) ?_)))))
 have hc3 := H.cell (u := (I Gk.1)) (o' := 0) 0 0 rfl rfl rfl
 refine st (v := (I Gk.1)) (rv_load1 Tryz.underlying3 rfl rfl hc3) (st (v := (pt Eg Eh)) (rv_fieldAddr (off := 0) (ft := 3) Tryz.underlying34 rfl ti3 rfl rfl) ?_)
 have hc4 := H.cell (u := (I Ed.1)) (o' := Eh) 2 0 rfl rfl rfl
 refine st (v := (I Ed.1)) (rv_load1 Tryz.underlying3 rfl rfl hc4) (st (v := (B (Gk.1 != Ed.1))) (rv_neq (a := Gk.1) (b := Ed.1) rfl rfl) (sa (B (Gk.1 != Ed.1)) rfl (w_end (q_then (c_ret ?_)))))
 obtain rfl := sj h
 exact fin_ret (v := (B (Gk.1 != Ed.1))) (results_ok Tryz.results140 (res_tmp (v := (B (Gk.1 != Ed.1))) rfl res_nil) rfl) ⟨rfl, rfl⟩ (H.sel' [2] rfl rfl)

end Go.Vs
