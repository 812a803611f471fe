/- The functions compute what their models say. -/
import Derived.Test.YtbbddfckcpfoaaaGreatKWalkToC3
set_option linter.unusedVariables false
set_option linter.unusedSimpArgs false
set_option maxRecDepth 20000
namespace Go.Vs
open Go Go.Proofs
attribute [local irreducible] Code.wp Code.wpIn wpList wpListIn wpQuiet Calls CallsIn

theorem c_impl_nearestHits_offer {Ek : Int × (List (Int × Int))} {Fe : Int × Int} {Ff : Option Addr} {Fg : Nat} {Fh Fi Fj : Nat} {Fk Fl : List Value} {r : (Int × (List (Int × Int)))} (h : M.impl_nearestHits_offer Ek Fe = some r) :
    Cal2 Tryz.prog 119 [(pt Fi Fj), (.agg #[(I Fe.1), (I Fe.2)])] [Ch.bx Fh Fi Fj [(I Ek.1), (Sl Ff Ek.2 Fg)] Fk Fl, Ch.own 0 0 (Sl Ff Ek.2 Fg) Ek.2] (fun n0 v L => ∃ (az1 : Option Addr), ∃ (cz2 : Nat), v = (.tuple #[]) ∧ L = [Ch.bx Fh Fi Fj [(I r.1), (Sl az1 r.2 cz2)] Fk Fl, Ch.own 0 0 (Sl az1 r.2 cz2) r.2]) := by
 refine cal2 (n := 26) Tryz.func119 rfl rfl rfl rfl ?_
 intro S0 σ0 n0 hn0 H
 unfold M.impl_nearestHits_offer at h
 refine c_seq (rg (st_ex (ex_box (cs := [(I Fe.1), (I Fe.2)]) H hn0 rfl rfl) wn ?_))
 rintro _ σ2 ⟨b1, rfl, H, -⟩
 refine w_end (q_then (c_seq ?_))
 refine rgP (σ := σ2) 6 (by kernel_rfl) (by kernel_rfl) (by kernel_rfl) ?_
 refine sq (v := (pt Fi Fj)) (rv_move rfl) (sq (v := (pt Fi Fj)) (rv_nilCheck rfl) (sq (v := (pt Fi (Fj + 1))) (rv_fieldAddr (off := 1) (ft := 132) Tryz.underlying134 rfl ti132 rfl rfl) (sq (v := (.iface 155 (pt Fi (Fj + 1)))) (rv_makeInterface Tryz.underlying155 rfl rfl) ?_)))
 have hc3 := H.cells 0 rfl
 refine sq (v := (.agg #[(I Fe.1), (I Fe.2)])) (rv_load (cs := [(I Fe.1), (I Fe.2)]) Tryz.underlying43 rfl ti43 rfl rfl hc3) (sq (v := (.iface 43 (.agg #[(I Fe.1), (I Fe.2)]))) (rv_makeInterface Tryz.underlying43 rfl rfl) (sq_end ?_))
 intro σ4 hm5
 replace H := H.grow (hm5.mono fun _ h => h); clear hm5
 replace H := Hp.focus (c1 := [(I Ek.1)]) (c2 := [(Sl Ff Ek.2 Fg)]) (c3 := []) (o' := (Fj + 1)) H 1 rfl rfl
 revert h; refine br fun r6 hx7 h => ?_
 have hc8 := c_container_heap_Push__impl_hitHeap__impl_Hit (Eu := Fh) (Ev := Fi) (Ew := (Fj + 1)) (Ey := (Fk ++ [(I Ek.1)])) (Ez := ([] ++ Fl)) (Es := Ff) (Et := Fg) hx7
 refine st_call (cx_call hc8 (ent_f hc8.fn rfl) hn0 (H.sel' [0, 2, 1] rfl rfl : Hp S0 σ0 _ ([_, _] ++ _))) wn ?_
 rintro _ σ11 ⟨_, ⟨a9, c10, rfl, rfl⟩, H, -⟩
 replace H : Hp _ _ _ [_, _, _] := H
 replace H : Hp S0 σ0 σ11 [Ch.bx Fh Fi Fj [(I Ek.1), (Sl a9 r6 c10)] Fk Fl, Ch.own 0 0 (Sl a9 r6 c10) r6, Ch.bx n0 b1 0 [(I Fe.1), (I Fe.2)] [] []] := Hp.unfocus (o := Fj) (c1 := [(I Ek.1)]) (c2 := [(Sl a9 r6 c10)]) (c3 := []) (pre := Fk) (suf := Fl) H 0 rfl rfl
 refine w_end (q_then (c_seq ?_))
 refine rgP (σ := σ11) 9 (by kernel_rfl) (by kernel_rfl) (by kernel_rfl) ?_
 refine sq (v := (pt Fi Fj)) (rv_move rfl) (sq (v := (pt Fi Fj)) (rv_nilCheck rfl) (sq (v := (pt Fi (Fj + 1))) (rv_fieldAddr (off := 1) (ft := 132) Tryz.underlying134 rfl ti132 rfl rfl) ?_))
 have hc12 := H.cell (u := (Sl a9 r6 c10)) (o' := (Fj + 1)) 0 1 rfl rfl rfl
 refine sq (v := (Sl a9 r6 c10)) (rv_load1 Tryz.underlying132 rfl rfl hc12) (sq (v := (I (r6.length : Int))) (rv_len Tryz.underlying132 rfl) (sq (v := (pt Fi Fj)) (rv_move rfl) (sq (v := (pt Fi Fj)) (rv_nilCheck rfl) (sq (v := (pt Fi Fj)) (rv_fieldAddr (off := 0) (ft := 3) Tryz.underlying134 rfl ti3 rfl rfl) ?_))))
 have hc13 := H.cell (u := (I Ek.1)) (o' := Fj) 0 0 rfl rfl rfl
 refine sq (v := (I Ek.1)) (rv_load1 Tryz.underlying3 rfl rfl hc13) (sq_end ?_)
 intro σ14 hm15
 replace H := H.grow (hm15.mono fun _ h => h); clear hm15
 refine st (v := (B (decide (Ek.1 < (r6.length : Int))))) (rv_gtr (a := (r6.length : Int)) (b := Ek.1) rfl rfl) (w_end (q_then ?_))
 refine cd_cond (decide (Ek.1 < (r6.length : Int))) rfl (fun hb16 => ?_) (fun hb16 => ?_)
 ·replace h := bif_t hb16 h
  refine rg (sm (pt Fi Fj) rfl (st (v := (pt Fi Fj)) (rv_nilCheck rfl) (st (v := (pt Fi (Fj + 1))) (rv_fieldAddr (off := 1) (ft := 132) Tryz.underlying134 rfl ti132 rfl rfl) (st (v := (.iface 155 (pt Fi (Fj + 1)))) (rv_makeInterface Tryz.underlying155 rfl rfl) ?_))))
  replace H := Hp.focus (c1 := [(I Ek.1)]) (c2 := [(Sl a9 r6 c10)]) (c3 := []) (o' := (Fj + 1)) H 0 rfl rfl
  revert h; refine br fun r17 hx18 h => ?_
  have hc19 := c_container_heap_Pop__impl_hitHeap (Eu := Fh) (Ev := Fi) (Ew := (Fj + 1)) (Ey := (Fk ++ [(I Ek.1)])) (Ez := ([] ++ Fl)) (Es := a9) (Et := c10) hx18
  refine st_call (cx_call hc19 (ent_f hc19.fn rfl) hn0 (H.sel' [0, 1, 2] rfl rfl : Hp S0 σ0 _ ([_, _] ++ _))) wn ?_
  rintro _ σ22 ⟨_, ⟨a20, c21, rfl, rfl⟩, H, -⟩
  replace H : Hp _ _ _ [_, _, _] := H
  replace H : Hp S0 σ0 σ22 [Ch.bx Fh Fi Fj [(I Ek.1), (Sl a20 r17.2 c21)] Fk Fl, Ch.own 0 0 (Sl a20 r17.2 c21) r17.2, Ch.bx n0 b1 0 [(I Fe.1), (I Fe.2)] [] []] := Hp.unfocus (o := Fj) (c1 := [(I Ek.1)]) (c2 := [(Sl a20 r17.2 c21)]) (c3 := []) (pre := Fk) (suf := Fl) H 0 rfl rfl
  refine w_end ?_
  obtain rfl := sj h
  exact fin_end (v := (.tuple #[])) (results_ok Tryz.results119 res_nil rfl) ⟨a20, c21, rfl, rfl⟩ (H.sel' [0, 1] rfl rfl)
 ·replace h := bif_f hb16 h
  refine c_skip ?_
  obtain rfl := sj h
  exact fin_end (v := (.tuple #[])) (results_ok Tryz.results119 res_nil rfl) ⟨a9, c10, rfl, rfl⟩ (H.sel' [0, 1] rfl rfl)

theorem c_slices_Values_impl_hitHeap_impl_Hit {Bj : List (Int × Int)} {Bk : Option Addr} {Bl : Nat} {r : Unit} (h : M.slices_Values_impl_hitHeap_impl_Hit Bj = some r) :
    Cal2 Tryz.prog 163 [(Sl Bk Bj Bl)] [Ch.ro 0 (Sl Bk Bj Bl) Bj] (fun n0 v L => ∃ (bz1 : Nat), v = (.func (.func 193) #[] #[(pt bz1 0)]) ∧ L = [Ch.bx n0 bz1 0 [(Sl Bk Bj Bl)] [] []]) := by
 refine cal2 (n := 4) Tryz.func163 rfl rfl rfl rfl ?_
 intro S0 σ0 n0 hn0 H
 unfold M.slices_Values_impl_hitHeap_impl_Hit at h
 refine c_seq (rg (st_ex (ex_box (cs := [(Sl Bk Bj Bl)]) H hn0 rfl rfl) wn ?_))
 rintro _ σ2 ⟨b1, rfl, H, -⟩
 refine sa (.nilFunc) rfl (w_end (q_then (c_seq (rg (st (v := (.func (.func 193) #[] #[(pt b1 0)])) (rv_makeFunc (vs := [(pt b1 0)]) rfl) (sa (.func (.func 193) #[] #[(pt b1 0)]) rfl (w_end (q_then (c_ret ?_)))))))))
 obtain rfl := sj h
 exact fin_ret (v := (.func (.func 193) #[] #[(pt b1 0)])) (results_ok Tryz.results163 (res_tmp (v := (.func (.func 193) #[] #[(pt b1 0)])) rfl res_nil) rfl) ⟨b1, rfl, rfl⟩ (H.sel' [0] rfl rfl)

theorem it_slices_AppendSeq_impl_Hit_impl_Hit__slices_Values_impl_hitHeap_impl_Hit_1 {b o c l : Nat} {a : Option Addr} {xs : List (Int × Int)} {J : Nat → St → Prop} (hst : ∀ {i σ σ'}, J i σ → Md (fun _ => False) σ σ' → J i σ')
    (hbx : ∀ {i σ}, J i σ → HCell σ.w.heap b o = some (Sl a xs c) ∧ Rd 0 σ (Sl a xs c) xs) (hn : xs.length ≤ 2147483648)
    (hy : ∀ i, (h : i < xs.length) → ∀ σ, J i σ → YieldAt Fence.wide 0 Tryz.prog l [(.agg #[(I (xs[i]).1), (I (xs[i]).2)])].toArray σ.w fun e W' => e = .returned (.bool true) ∧ ∃ σ', W' = σ'.w ∧ J (i + 1) σ')
    (σ : St) (h0 : J 0 σ) : CallsIn Fence.wide 0 Tryz.prog 193 [.func (.yield l) #[] #[], (pt b o)].toArray σ.w fun e W' => (∃ v, e = .returned v) ∧ ∃ σ', W' = σ'.w ∧ J xs.length σ' := by
  refine enterI (n := 16) Tryz.func193 rfl rfl rfl ?_
  refine wpIn_seq ?_
  obtain ⟨hc, -⟩ := hbx h0
  refine rgI ?_
  refine stI nofun (v := (Sl a xs c)) (rv_load1 Tryz.underlying132 rfl rfl hc) ?_
  refine stI nofun (v := (I (xs.length : Int))) (rv_len Tryz.underlying132 rfl) ?_
  refine stI nofun (v := (I 0)) (rv_move rfl) ?_
  refine endI ?_
  refine q_then (wpIn_block ?_)
  refine wpIn_loop_ghost (fun k a' w' => ∃ i ρ σ, i + k = xs.length ∧ a' = fr 16 (updL ρ [(0, .func (.yield l) #[] #[]), (1, pt b o), (5, Sl a xs c), (6, I (xs.length : Int)), (7, I (i : Int))]) ∧ w' = σ.w ∧ J i σ) xs.length ⟨0, _, σ, by omega, fr_join ⟨rfl, rfl, rfl, rfl, rfl, trivial⟩, rfl, h0⟩ ?_
  clear hc h0
  rintro k _ _ ⟨i, ρ, σ, hik, rfl, rfl, hJ⟩
  refine wpIn_seq ?_
  refine rgI ?_
  refine stI nofun (v := (B (decide ((i : Int) < (xs.length : Int))))) (rv_lss (a := (i : Int)) (b := (xs.length : Int)) rfl rfl) ?_
  refine endI ?_
  refine q_then (wpIn_seq ?_)
  refine cdI_cond (decide ((i : Int) < (xs.length : Int))) rfl (fun hb => ?_) (fun hb => ?_)
  · have hlt : i < xs.length := by have := of_decide_eq_true hb; omega
    refine wpIn_skip ?_
    refine q_then (wpIn_seq ?_)
    refine wpIn_block ?_
    refine wpIn_seq ?_
    refine rgI ?_
    have hg : gidx xs (i : Int) = some xs[i] := gidx_at hlt
    obtain ⟨-, hR⟩ := hbx hJ
    obtain ⟨bx, ox, hi, hat⟩ := hR.ix hg
    obtain ⟨_, ⟨_, _, rfl, rfl, rfl⟩, hl, hcx⟩ := hat.cells
    refine stI nofun (v := (pt bx ox)) (rv_ix Tryz.underlying132 ti43 rfl rfl hi) ?_
    refine stI nofun (v := (.agg #[(I (xs[i]).1), (I (xs[i]).2)])) (rv_load (cs := [(I (xs[i]).1), (I (xs[i]).2)]) Tryz.underlying43 rfl ti43 rfl hl hcx) ?_
    have H : Hp (cov []) σ σ [] := Hp.begin trivial trivial
    refine stI_ex nofun (ex_alloc (lo := 0) H (Nat.zero_le _) ti43 rfl) ?_
    rintro _ σ2 ⟨b4, rfl, H, -⟩
    refine stI_exS nofun (ex_store_box (vs := [(I (xs[i]).1), (I (xs[i]).2)]) (k := 0) H (i := 0) rfl ti43 rfl rfl rfl rfl rfl (Nat.le_of_ble_eq_true rfl) (by simp [plain]) rfl) ?_
    rintro σ3 ⟨H, -⟩
    refine endI ?_
    refine q_then (wpIn_seq ?_)
    refine rgI ?_
    refine stI nofun (v := (.func (.yield l) #[] #[])) (rv_move rfl) ?_
    have hc4 := H.cells 0 rfl
    refine stI nofun (v := (.agg #[(I (xs[i]).1), (I (xs[i]).2)])) (rv_load (cs := [(I (xs[i]).1), (I (xs[i]).2)]) Tryz.underlying43 rfl ti43 rfl rfl hc4) ?_
    refine stI_yield (args := [(.agg #[(I (xs[i]).1), (I (xs[i]).2)])]) rfl rfl (hy i hlt σ3 (hst hJ H.md)) ?_
    rintro e w' ⟨rfl, σ4, rfl, hJ4⟩
    refine ⟨_, rfl, ?_⟩
    refine stI nofun (v := (B (!true))) (rv_not rfl) ?_
    refine endI ?_
    refine q_then ?_
    refine cdI_cond false rfl (fun hb => by cases hb) (fun _ => ?_)
    refine wpIn_skip ?_
    refine q_blk (q_then (rgI ?_))
    refine stI nofun (v := (I (w64 ((i : Int) + 1)))) (rv_add (a := (i : Int)) (b := 1) rfl rfl) ?_
    refine stI nofun (v := (I (w64 ((i : Int) + 1)))) (rv_move rfl) ?_
    refine endI ?_
    have e1 : w64 ((i : Int) + 1) = ((i + 1 : Nat) : Int) := w64_id (by omega) (by omega)
    rw [e1]
    refine q_then ?_
    exact ⟨k - 1, by omega, i + 1, _, σ4, by omega, fr_join ⟨rfl, rfl, rfl, rfl, rfl, trivial⟩, rfl, hJ4⟩
  · have hlt : ¬ i < xs.length := by have := of_decide_eq_false hb; omega
    have : i = xs.length := by omega
    subst this
    refine wpIn_exit ?_
    refine q_then_x (q_then_x (q_blk_hit ?_))
    exact fin_plain' (v := .tuple #[]) (results_ok Tryz.results193 res_nil rfl) ⟨⟨_, rfl⟩, σ, rfl, hJ⟩
theorem c_slices_AppendSeq_impl_Hit_impl_Hit__slices_Values_impl_hitHeap_impl_Hit_1 {Fm : List (Int × Int)} {Fn : Option Addr} {Fo : Nat} {Fp Fq Fr : Nat} {Fs Ft : List Value} {r : List (Int × Int)} (h : M.slices_AppendSeq_impl_Hit_impl_Hit__slices_Values_impl_hitHeap_impl_Hit_1 Fm = some r) :
    Cal2 Tryz.prog 202 [.slice none 0 0, (.func (.func 193) #[] #[(pt Fq Fr)])] [Ch.bx Fp Fq Fr [(Sl Fn Fm Fo)] Fs Ft, Ch.ro 0 (Sl Fn Fm Fo) Fm] (fun n0 v L => ∃ (az1 : Option Addr), ∃ (cz2 : Nat), v = (Sl az1 r cz2) ∧ L = [Ch.own n0 n0 (Sl az1 r cz2) r, Ch.bx Fp Fq Fr [(Sl Fn Fm Fo)] Fs Ft]) := by
  obtain ⟨hn, rfl⟩ := coll_some (show M.coll Fm = some r from h)
  refine ⟨⟨_, _, Tryz.func202, rfl, rfl⟩, fun σ0 n0 hn0 H => ?_⟩
  refine callsIn_wide.1 (enterI (n := 13) Tryz.func202 rfl rfl rfl ?_)
  refine wpIn_seq ?_
  refine rgI ?_
  refine stI_ex nofun (ex_box (cs := [.slice none 0 0]) H hn0 rfl rfl) ?_
  rintro _ σ1 ⟨b1, rfl, H, -⟩
  refine stI nofun (v := (.slice none 0 0)) (rv_assign rfl) ?_
  refine endI ?_
  refine q_then (wpIn_seq ?_)
  refine wpIn_seq ?_
  refine rgI ?_
  refine stI nofun (v := (.func (.func 193) #[] #[(pt Fq Fr)])) (rv_move rfl) ?_
  refine endI ?_
  refine q_then (wpIn_block ?_)
  replace H := H.nilOwn (Int × Int) n0 n0
  refine wp_rangeF (gf := 193) (lb := #[(pt Fq Fr)]) (N := r.length) (encs := fun i => [(.agg #[(I (r.getD i (0, 0)).1), (I (r.getD i (0, 0)).2)])].toArray) (by rw [fr_eval]; rfl) (eg_of ⟨_, _, Tryz.func193, rfl, rfl⟩) (fun _ _ => rfl)
    (fun i L => ∃ a' c', L = [Ch.own n0 n0 (Sl a' (r.take i) c') (r.take i), Ch.bx n0 b1 0 [(Sl a' (r.take i) c')] [] [], Ch.bx Fp Fq Fr [(Sl Fn r Fo)] Fs Ft, Ch.ro 0 (Sl Fn r Fo) r]) ⟨none, 0, rfl⟩ H ?_ ?_ ?_
  · intro l J hst hJ hy σ h0
    refine it_slices_AppendSeq_impl_Hit_impl_Hit__slices_Values_impl_hitHeap_impl_Hit_1 (J := J) (a := Fn) (c := Fo) hst (fun {i σ} h => ?_) hn (fun i hi σ h => ?_) σ h0
    · obtain ⟨L, R, ⟨a', c', rfl⟩, H⟩ := hJ h
      have H2 := H.drop R
      exact ⟨H2.cells 2 rfl 0 (by simp), (H2.ro 3 rfl).rd⟩
    · have := hy i hi σ h
      simpa [List.getD, hi] using this
  · rintro l D i rc rc' hi σ _ ⟨a', c', rfl⟩ H
    have hgd : r.getD i (0, 0) = r[i] := by simp [List.getD, hi]
    simp only [hgd]
    rw [round_fr]
    refine rgI ?_
    refine stI_ex nofun (ex_alloc (lo := n0) H hn0 ti43 rfl) ?_
    rintro _ σ2 ⟨b5, rfl, H, -⟩
    refine stI_exS nofun (ex_store_box (vs := [(I (r[i]).1), (I (r[i]).2)]) (cs' := [(I (r[i]).1), (I (r[i]).2)]) (k := 0) H (i := 0) rfl ti43 rfl rfl rfl rfl rfl (Nat.le_of_ble_eq_true rfl) (by simp [plain]) rfl) ?_
    rintro σ3 ⟨H, -⟩
    refine endI ?_
    refine q_then ?_
    refine ⟨σ3, _, rfl, H.sel' [1, 2, 0, 3, 4, 5, 6] rfl rfl, ?_⟩
    clear H
    intro σ4 H
    refine wpIn_block ?_
    refine rgI ?_
    have hc1 := H.cells 4 rfl
    refine stI nofun (v := (Sl a' (r.take i) c')) (rv_load1 Tryz.underlying30 rfl rfl (hc1 0 (by simp))) ?_
    have hc5 := H.cells 2 rfl
    refine stI nofun (v := (.agg #[(I (r[i]).1), (I (r[i]).2)])) (rv_load (cs := [(I (r[i]).1), (I (r[i]).2)]) Tryz.underlying43 rfl ti43 rfl rfl hc5) ?_
    refine stI_ex nofun (ex_buildSlice (lo := n0) (el := n0) (xs := ([((r[i]).1, (r[i]).2)] : List (Int × Int))) (ps := [(0, (.agg #[(I (r[i]).1), (I (r[i]).2)]))]) (cs := [(I (r[i]).1), (I (r[i]).2)]) H hn0 Tryz.underlying30 ti43 rfl rfl (by kernel_rfl) (.cons (c := [(I (r[i]).1), (I (r[i]).2)]) ⟨_, _, rfl, rfl, rfl⟩ .nil) rfl) ?_
    rintro _ σ5 ⟨b10, rfl, H, -⟩
    refine stI_ex nofun (ex_append H (i := 4) rfl Tryz.underlying30 Tryz.underlying30 ti43 rfl rfl (by decide) (H.own 0 rfl).rd (take_gapp hi hn) hn0 rfl rfl) ?_
    rintro _ σ6 ⟨a2, c2, rfl, H, -⟩
    refine stI_exS nofun (ex_store_box (vs := [(Sl a2 (r.take (i + 1)) c2)]) (cs' := [(Sl a2 (r.take (i + 1)) c2)]) (k := 0) H (i := 5) rfl ti30 rfl rfl rfl rfl rfl (Nat.le_of_ble_eq_true rfl) (by simp [plain, Sl]) rfl) ?_
    rintro σ7 ⟨H, -⟩
    refine endI ?_
    refine q_blk ?_
    exact ⟨rfl, σ7, _, rfl, ⟨a2, c2, rfl⟩, H.sel' [3, 4, 1, 0, 6, 7] rfl rfl⟩
  · rintro D σ _ ⟨a', c', rfl⟩ H
    rw [List.take_length] at H
    refine q_blk (q_then (wpIn_seq ?_))
    refine rgD (ds := [{ target := .collected D, args := #[] }]) ?_
    have hc1 := H.cells 2 rfl
    refine stD nofun (v := (Sl a' r c')) (rv_load1 Tryz.underlying30 rfl rfl (hc1 0 (by simp))) ?_
    refine stD nofun (v := (Sl a' r c')) (rv_assign rfl) ?_
    refine endD ?_
    refine q_then (wpIn_ret ?_)
    exact fin_mark (v := Sl a' r c') H (results_ok Tryz.results202 (res_tmp (v := Sl a' r c') rfl res_nil) rfl) ⟨_, _, _, rfl, rfl, ⟨a', c', rfl, rfl⟩, (H.putDf _).sel' [0, 2] rfl rfl⟩

theorem c_slices_Collect_impl_Hit__slices_Values_impl_hitHeap_impl_Hit_1 {Fu : List (Int × Int)} {Fv : Option Addr} {Fw : Nat} {Fx Fy Ga : Nat} {Gb Gc : List Value} {r : (List (Int × Int))} (h : M.slices_Collect_impl_Hit__slices_Values_impl_hitHeap_impl_Hit_1 Fu = some r) :
    Cal2 Tryz.prog 191 [(.func (.func 193) #[] #[(pt Fy Ga)])] [Ch.bx Fx Fy Ga [(Sl Fv Fu Fw)] Gb Gc, Ch.ro 0 (Sl Fv Fu Fw) Fu] (fun n0 v L => ∃ (az1 : Option Addr), ∃ (cz2 : Nat), v = (Sl az1 r cz2) ∧ L = [Ch.own n0 n0 (Sl az1 r cz2) r, Ch.bx Fx Fy Ga [(Sl Fv Fu Fw)] Gb Gc]) := by
 refine cal2 (n := 5) Tryz.func191 rfl rfl rfl rfl ?_
 intro S0 σ0 n0 hn0 H
 unfold M.slices_Collect_impl_Hit__slices_Values_impl_hitHeap_impl_Hit_1 at h
 refine c_seq (rg (sa (.slice none 0 0) rfl (w_end (q_then (c_seq (rg (sm (.func (.func 193) #[] #[(pt Fy Ga)]) rfl ?_)))))))
 revert h; refine br fun r1 hx2 h => ?_
 have hc3 := c_slices_AppendSeq_impl_Hit_impl_Hit__slices_Values_impl_hitHeap_impl_Hit_1 (Fp := Fx) (Fq := Fy) (Fr := Ga) (Fs := Gb) (Ft := Gc) (Fn := Fv) (Fo := Fw) hx2
 refine st_call (cx_call hc3 (ent_f hc3.fn rfl) hn0 (H.sel' [0, 1, 1] rfl rfl : Hp S0 σ0 _ ([_, _] ++ _))) wn ?_
 rintro _ σ6 ⟨_, ⟨a4, c5, rfl, rfl⟩, H, -⟩
 replace H : Hp _ _ _ [_, _, _] := H
 refine sa (Sl a4 r1 c5) rfl (w_end (q_then (c_ret ?_)))
 obtain rfl := sj h
 exact fin_ret (v := (Sl a4 r1 c5)) (results_ok Tryz.results191 (res_tmp (v := (Sl a4 r1 c5)) rfl res_nil) rfl) ⟨a4, c5, rfl, rfl⟩ (H.sel' [0, 1] rfl rfl)

def sort192_ren : Go.Shelf.Ren := ⟨fun | 6 => 192 | 15 => 149 | 14 => 203 | 28 => 186 | 29 => 187 | 20 => 213 | 21 => 214 | 22 => 215 | 23 => 216 | 24 => 217 | 25 => 218 | 26 => 219 | 27 => 220 | 46 => 224 | 47 => 198 | 48 => 199 | 49 => 225 | 50 => 226 | 57 => 228 | n => n, fun | 22 => 30 | 24 => 43 | 25 => 119 | 3 => 3 | 39 => 150 | 0 => 0 | 53 => 176 | 55 => 178 | 4 => 4 | 46 => 170 | 45 => 169 | 50 => 113 | 5 => 5 | 9 => 9 | 66 => 190 | 70 => 194 | 76 => 203 | 77 => 204 | n => n, fun | n => n⟩
theorem sort192 : Go.Proofs.SlLaysF0.n6 Tryz.prog sort192_ren := {
  mixed := by kernel_rfl
  f6 := ⟨Tryz.f192.name, by decide, Tryz.func192.trans (congrArg some (by kernel_rfl))⟩
  f14 := ⟨Tryz.f203.name, by decide, Tryz.func203.trans (congrArg some (by kernel_rfl))⟩
  f15 := Tryz.func149.trans (congrArg some (by kernel_rfl))
  f20 := ⟨Tryz.f213.name, by decide, Tryz.func213.trans (congrArg some (by kernel_rfl))⟩
  f21 := ⟨Tryz.f214.name, by decide, Tryz.func214.trans (congrArg some (by kernel_rfl))⟩
  f22 := ⟨Tryz.f215.name, by decide, Tryz.func215.trans (congrArg some (by kernel_rfl))⟩
  f23 := ⟨Tryz.f216.name, by decide, Tryz.func216.trans (congrArg some (by kernel_rfl))⟩
  f24 := ⟨Tryz.f217.name, by decide, Tryz.func217.trans (congrArg some (by kernel_rfl))⟩
  f25 := ⟨Tryz.f218.name, by decide, Tryz.func218.trans (congrArg some (by kernel_rfl))⟩
  f26 := ⟨Tryz.f219.name, by decide, Tryz.func219.trans (congrArg some (by kernel_rfl))⟩
  f27 := ⟨Tryz.f220.name, by decide, Tryz.func220.trans (congrArg some (by kernel_rfl))⟩
  f28 := Tryz.func186.trans (congrArg some (by kernel_rfl))
  f29 := Tryz.func187.trans (congrArg some (by kernel_rfl))
  f46 := ⟨Tryz.f224.name, by decide, Tryz.func224.trans (congrArg some (by kernel_rfl))⟩
  f47 := Tryz.func198.trans (congrArg some (by kernel_rfl))
  f48 := Tryz.func199.trans (congrArg some (by kernel_rfl))
  f49 := ⟨Tryz.f225.name, by decide, Tryz.func225.trans (congrArg some (by kernel_rfl))⟩
  f50 := ⟨Tryz.f226.name, by decide, Tryz.func226.trans (congrArg some (by kernel_rfl))⟩
  f57 := ⟨Tryz.f228.name, by decide, Tryz.func228.trans (congrArg some (by kernel_rfl))⟩
  t0 := Tryz.underlying0
  a0 := Tryz.isAgg0
  z0 := Tryz.sizeOf0
  v0 := Tryz.zeroValue0
  t3 := Tryz.underlying3
  a3 := Tryz.isAgg3
  z3 := Tryz.sizeOf3
  v3 := Tryz.zeroValue3
  t4 := Tryz.underlying4
  a4 := Tryz.isAgg4
  z4 := Tryz.sizeOf4
  v4 := Tryz.zeroValue4
  t5 := Tryz.underlying5
  a5 := Tryz.isAgg5
  z5 := Tryz.sizeOf5
  v5 := Tryz.zeroValue5
  t9 := Tryz.underlying9
  a9 := Tryz.isAgg9
  z9 := Tryz.sizeOf9
  v9 := Tryz.zeroValue9
  t22 := Tryz.underlying30
  a22 := Tryz.isAgg30
  z22 := Tryz.sizeOf30
  v22 := Tryz.zeroValue30
  t25 := Tryz.underlying119
  a25 := Tryz.isAgg119
  z25 := Tryz.sizeOf119
  v25 := Tryz.zeroValue119
  t39 := Tryz.underlying150
  a39 := Tryz.isAgg150
  z39 := Tryz.sizeOf150
  v39 := Tryz.zeroValue150
  t45 := Tryz.underlying169
  a45 := Tryz.isAgg169
  z45 := Tryz.sizeOf169
  v45 := Tryz.zeroValue169
  t46 := Tryz.underlying170
  a46 := Tryz.isAgg170
  z46 := Tryz.sizeOf170
  v46 := Tryz.zeroValue170
  t50 := Tryz.underlying113
  a50 := Tryz.isAgg113
  z50 := Tryz.sizeOf113
  v50 := Tryz.zeroValue113
  t53 := Tryz.underlying176
  a53 := Tryz.isAgg176
  z53 := Tryz.sizeOf176
  v53 := Tryz.zeroValue176
  t55 := Tryz.underlying178
  a55 := Tryz.isAgg178
  z55 := Tryz.sizeOf178
  v55 := Tryz.zeroValue178
  t66 := Tryz.underlying190
  a66 := Tryz.isAgg190
  z66 := Tryz.sizeOf190
  v66 := Tryz.zeroValue190
  t70 := Tryz.underlying194
  a70 := Tryz.isAgg194
  z70 := Tryz.sizeOf194
  v70 := Tryz.zeroValue194
  t76 := Tryz.underlying203
  a76 := Tryz.isAgg203
  z76 := Tryz.sizeOf203
  v76 := Tryz.zeroValue203
  t77 := Tryz.underlying204
  a77 := Tryz.isAgg204
  z77 := Tryz.sizeOf204
  v77 := Tryz.zeroValue204 }

theorem c_slices_SortFunc_impl_Hit_impl_Hit__impl_compareHits {Be : List (Int × Int)} {Cl : Option Addr} {Cm : Nat} {r : List (Int × Int)} (h : M.slices_SortFunc_impl_Hit_impl_Hit__impl_compareHits Be = some r) :
    Cal2 Tryz.prog 192 [(Sl Cl Be Cm), (.func (.func 98) #[] #[])] [Ch.own 0 0 (Sl Cl Be Cm) Be] (fun n0 v L => v = (.tuple #[]) ∧ L = [Ch.own 0 0 (Sl Cl r Cm) r] ∧ r.length = Be.length) := by
 obtain ⟨hn, hs, hL, rfl⟩ := sortD_some h
 have hE : ∀ σ σ' : St, Ext σ σ' → (True) → (True) := fun _ _ _ hp => hp
 have hB : ∀ σ : St, allAs σ [] → apart [] → ∃ σp, Pb (cov []) σ σp ∧ True := fun σ _ _ => ⟨σ, ⟨rfl, fun _ _ => rfl, fun _ => Nat.le_refl _⟩, trivial⟩
 have hC : ∀ σ : St, (True) → ∀ x ∈ Be, ∀ y ∈ Be, ∀ cx cy, Rp.rp 0 σ cx x → Rp.rp 0 σ cy y → Calls Tryz.prog 98 ([Value.agg cx.toArray, Value.agg cy.toArray] ++ []).toArray σ.w fun e w' => e = .returned (I ((M.impl_compareHits (x.1, x.2) (y.1, y.2)).getD 0)) ∧ ∃ q os, w' = Go.Sort.grow (σ.w.drewN q) os := by
     intro σ hp x hx y hy cx cy rx ry
     obtain ⟨r, hr⟩ := hs x hx y hy
     obtain ⟨_, _, rfl, rfl, rfl⟩ := rx
     obtain ⟨_, _, rfl, rfl, rfl⟩ := ry
     have hc := c_impl_compareHits  hr
     refine (hc.runs σ 0 (Nat.zero_le _) (Hp.begin trivial trivial)).mono ?_
     rintro e w' ⟨v, σ', L', rfl, rfl, ⟨rfl, -⟩, H⟩
     exact ⟨by rw [hr]; rfl, (H.md.mono fun i => fun h => h).grown⟩
 refine (sort_cal2 (α := (Int × Int)) sort192 Tryz.isAgg43 Tryz.sizeOf43 (xs := Be) (a := Cl) (c := Cm) (g := 98) (cb := []) (B := []) (fun x y => (M.impl_compareHits (x.1, x.2) (y.1, y.2)).getD 0) hL hn ⟨_, _, Tryz.func98, rfl, rfl⟩ _ hE hB hC).conv ?_
 rintro m v L ⟨rfl, rfl⟩
 exact ⟨_, ⟨rfl, rfl, sortL_len⟩, fun H => H.sel' [0] rfl rfl⟩

theorem c_slices_SortedFunc_impl_Hit__slices_Values_impl_hitHeap_impl_Hit_1__impl_compareHits {Fu : List (Int × Int)} {Fv : Option Addr} {Fw : Nat} {Fx Fy Ga : Nat} {Gb Gc : List Value} {r : (List (Int × Int))} (h : M.slices_SortedFunc_impl_Hit__slices_Values_impl_hitHeap_impl_Hit_1__impl_compareHits Fu = some r) :
    Cal2 Tryz.prog 162 [(.func (.func 193) #[] #[(pt Fy Ga)]), (.func (.func 98) #[] #[])] [Ch.bx Fx Fy Ga [(Sl Fv Fu Fw)] Gb Gc, Ch.ro 0 (Sl Fv Fu Fw) Fu] (fun n0 v L => ∃ (az1 : Option Addr), ∃ (cz2 : Nat), v = (Sl az1 r cz2) ∧ L = [Ch.own 0 n0 (Sl az1 r cz2) r, Ch.bx Fx Fy Ga [(Sl Fv Fu Fw)] Gb Gc]) := by
 refine cal2 (n := 12) Tryz.func162 rfl rfl rfl rfl ?_
 intro S0 σ0 n0 hn0 H
 unfold M.slices_SortedFunc_impl_Hit__slices_Values_impl_hitHeap_impl_Hit_1__impl_compareHits at h
 refine c_seq (rg (sa (.slice none 0 0) rfl (w_end (q_then (c_seq (rg (sm (.func (.func 193) #[] #[(pt Fy Ga)]) rfl ?_)))))))
 revert h; refine br fun r1 hx2 h => ?_
 have hc3 := c_slices_Collect_impl_Hit__slices_Values_impl_hitHeap_impl_Hit_1 (Fx := Fx) (Fy := Fy) (Ga := Ga) (Gb := Gb) (Gc := Gc) (Fv := Fv) (Fw := Fw) hx2
 refine st_call (cx_call hc3 (ent_f hc3.fn rfl) hn0 (H.sel' [0, 1, 1] rfl rfl : Hp S0 σ0 _ ([_, _] ++ _))) wn ?_
 rintro _ σ6 ⟨_, ⟨a4, c5, rfl, rfl⟩, H, -⟩
 replace H : Hp _ _ _ [_, _, _] := H
 refine sa (Sl a4 r1 c5) rfl (w_end (q_then (c_seq (rg (sm (Sl a4 r1 c5) rfl (sm (.func (.func 98) #[] #[]) rfl ?_))))))
 replace H := H.ownLow 0 0 0 rfl (Nat.zero_le _) (Nat.zero_le _)
 revert h; refine br fun r7 hx8 h => ?_
 have hc9 := c_slices_SortFunc_impl_Hit_impl_Hit__impl_compareHits (Cl := a4) (Cm := c5) hx8
 refine st_call (cx_call hc9 (ent_f hc9.fn rfl) hn0 (H.sel' [0, 1, 2] rfl rfl : Hp S0 σ0 _ ([_] ++ _))) wn ?_
 rintro _ σ11 ⟨_, ⟨rfl, rfl, hn10⟩, H, -⟩
 replace H : Hp _ _ _ [_, _, _] := H
 have hsl : (Sl a4 r1 c5) = (Sl a4 r7 c5) := sl_len hn10.symm
 try rw [hsl]
 try rw [hsl] at H
 clear hsl
 refine w_end (q_then (c_seq (rg (sm (Sl a4 r7 c5) rfl (sa (Sl a4 r7 c5) rfl (w_end (q_then (c_ret ?_))))))))
 replace H := H.ownSc 0 0 n0 rfl (Nat.le_refl _)
 obtain rfl := sj h
 exact fin_ret (v := (Sl a4 r7 c5)) (results_ok Tryz.results162 (res_tmp (v := (Sl a4 r7 c5)) rfl res_nil) rfl) ⟨a4, c5, rfl, rfl⟩ (H.sel' [0, 1] rfl rfl)

theorem c_impl_nearestHits_inOrder {Ek : Int × (List (Int × Int))} {Ff : Option Addr} {Fg : Nat} {Fh Fi Fj : Nat} {Fk Fl : List Value} {r : (List (Int × Int))} (h : M.impl_nearestHits_inOrder Ek = some r) :
    Cal2 Tryz.prog 120 [(pt Fi Fj)] [Ch.bx Fh Fi Fj [(I Ek.1), (Sl Ff Ek.2 Fg)] Fk Fl, Ch.ro 0 (Sl Ff Ek.2 Fg) Ek.2] (fun n0 v L => ∃ (az1 : Option Addr), ∃ (cz2 : Nat), v = (Sl az1 r cz2) ∧ L = [Ch.own 0 n0 (Sl az1 r cz2) r, Ch.bx Fh Fi Fj [(I Ek.1), (Sl Ff Ek.2 Fg)] Fk Fl]) := by
 refine cal2 (n := 9) Tryz.func120 rfl rfl rfl rfl ?_
 intro S0 σ0 n0 hn0 H
 unfold M.impl_nearestHits_inOrder at h
 refine c_seq (rg (sa (.slice none 0 0) rfl (w_end (q_then (c_seq (rg (sm (pt Fi Fj) rfl (st (v := (pt Fi Fj)) (rv_nilCheck rfl) (st (v := (pt Fi (Fj + 1))) (rv_fieldAddr (off := 1) (ft := 132) Tryz.underlying134 rfl ti132 rfl rfl) ?_)))))))))
 have hc1 := H.cell (u := (Sl Ff Ek.2 Fg)) (o' := (Fj + 1)) 0 1 rfl rfl rfl
 refine st (v := (Sl Ff Ek.2 Fg)) (rv_load1 Tryz.underlying132 rfl rfl hc1) ?_
 revert h; refine br fun r2 hx3 h => ?_
 have hc4 := c_slices_Values_impl_hitHeap_impl_Hit (Bk := Ff) (Bl := Fg) hx3
 refine st_call (cx_call hc4 (ent_f hc4.fn rfl) hn0 (H.sel' [1, 0, 1] rfl rfl : Hp S0 σ0 _ ([_] ++ _))) wn ?_
 rintro _ σ6 ⟨_, ⟨b5, rfl, rfl⟩, H, -⟩
 replace H : Hp _ _ _ [_, _, _] := H
 revert h; refine br fun r7 hx8 h => ?_
 have hc9 := c_slices_SortedFunc_impl_Hit__slices_Values_impl_hitHeap_impl_Hit_1__impl_compareHits (Fx := n0) (Fy := b5) (Ga := 0) (Gb := []) (Gc := []) (Fv := Ff) (Fw := Fg) hx8
 refine st_call (cx_call hc9 (ent_f hc9.fn rfl) hn0 (H.sel' [0, 2, 1, 2] rfl rfl : Hp S0 σ0 _ ([_, _] ++ _))) wn ?_
 rintro _ σ12 ⟨_, ⟨a10, c11, rfl, rfl⟩, H, -⟩
 replace H : Hp _ _ _ [_, _, _, _] := H
 refine sa (Sl a10 r7 c11) rfl (w_end (q_then (c_ret ?_)))
 obtain rfl := sj h
 exact fin_ret (v := (Sl a10 r7 c11)) (results_ok Tryz.results120 (res_tmp (v := (Sl a10 r7 c11)) rfl res_nil) rfl) ⟨a10, c11, rfl, rfl⟩ (H.sel' [0, 2] rfl rfl)

theorem c_impl_nearestAmong_1__p3__p24 {Be : Int × (List Int) × Int} {Dc : Int} {Ca : List Int} {Bf : Option Addr} {Bg : Nat} {Di Dj Dk : Nat} {Dm Dn : List Value} {Gd : Option Addr} {Ge : Nat} {Gf Ce Cf : Nat} {Gg Gh : List Value} {r : Int} (h : M.impl_nearestAmong_1__p3__p24 Be Dc Ca = some r) :
    Cal2 Tryz.prog 131 [(.agg #[(I Be.1), (Sl Bf Be.2.1 Bg), (I Be.2.2)]), (pt Dj Dk), (pt Ce Cf)] [Ch.ro 0 (Sl Bf Be.2.1 Bg) Be.2.1, Ch.bx Di Dj Dk [(I Dc)] Dm Dn, Ch.bx Gf Ce Cf [(Sl Gd Ca Ge)] Gg Gh, Ch.ro 0 (Sl Gd Ca Ge) Ca] (fun n0 v L => v = (I r) ∧ L = [Ch.bx Di Dj Dk [(I Dc)] Dm Dn, Ch.bx Gf Ce Cf [(Sl Gd Ca Ge)] Gg Gh]) := by
 refine cal2 (n := 10) Tryz.func131 rfl rfl rfl rfl ?_
 intro S0 σ0 n0 hn0 H
 unfold M.impl_nearestAmong_1__p3__p24 at h
 refine c_seq (rg (st_ex (ex_box (cs := [(I Be.1), (Sl Bf Be.2.1 Bg), (I Be.2.2)]) H hn0 rfl rfl) wn ?_))
 rintro _ σ2 ⟨b1, rfl, H, -⟩
 refine sa (I 0) rfl (w_end (q_then (c_seq (rg ?_))))
 have hc3 := H.cell (u := (I Dc)) (o' := Dk) 2 0 rfl rfl rfl
 refine st (v := (I Dc)) (rv_load1 Tryz.underlying3 rfl rfl hc3) (st (v := (pt b1 1)) (rv_fieldAddr (off := 1) (ft := 27) Tryz.underlying34 rfl ti27 rfl rfl) ?_)
 have hc4 := H.cell (u := (Sl Bf Be.2.1 Bg)) (o' := 1) 0 1 rfl rfl rfl
 refine st (v := (Sl Bf Be.2.1 Bg)) (rv_load1 Tryz.underlying27 rfl rfl hc4) ?_
 have hc5 := H.cell (u := (Sl Gd Ca Ge)) (o' := Cf) 3 0 rfl rfl rfl
 refine st (v := (Sl Gd Ca Ge)) (rv_load1 Tryz.underlying27 rfl rfl hc5) ?_
 revert h; refine br fun r6 hx7 h => ?_
 have hc8 := c_impl_Distance (As := Bf) (Au := Bg) (Av := Gd) (Aw := Ge) hx7
 refine st_call (cx_call hc8 (ent_f hc8.fn rfl) hn0 (H.sel' [1, 4, 0, 1, 2, 3, 4] rfl rfl : Hp S0 σ0 _ ([_, _] ++ _))) wn ?_
 rintro _ σ9 ⟨_, ⟨rfl, rfl⟩, H, -⟩
 replace H : Hp _ _ _ [_, _, _, _, _] := H
 refine sa (I r6) rfl (w_end (q_then (c_ret ?_)))
 obtain rfl := sj h
 exact fin_ret (v := (I r6)) (results_ok Tryz.results131 (res_tmp (v := (I r6)) rfl res_nil) rfl) ⟨rfl, rfl⟩ (H.sel' [2, 3] rfl rfl)

theorem c_impl_nearestBy__impl_nearestAmong_1 {Ax : List (Int × (List Int) × Int)} {Gi : Int} {Gj : Int} {Gk : List Int} {Az : Option Addr} {Ba : Nat} {Gl Gm Gn : Nat} {Gp Gq : List Value} {Gr : Option Addr} {Gs : Nat} {Gt Gu Gv : Nat} {Gw Gx : List Value} {r : (List (Int × Int))} (h : M.impl_nearestBy__impl_nearestAmong_1 Ax Gi Gj Gk = some r) :
    Cal2 Tryz.prog 56 [(Sl Az Ax Ba), (I Gi), (.func (.func 131) #[] #[(pt Gm Gn), (pt Gu Gv)])] [Ch.ro 0 (Sl Az Ax Ba) Ax, Ch.bx Gl Gm Gn [(I Gj)] Gp Gq, Ch.bx Gt Gu Gv [(Sl Gr Gk Gs)] Gw Gx, Ch.ro 0 (Sl Gr Gk Gs) Gk] (fun n0 v L => ∃ (az1 : Option Addr), ∃ (cz2 : Nat), v = (Sl az1 r cz2) ∧ L = [Ch.own 0 n0 (Sl az1 r cz2) r, Ch.bx Gl Gm Gn [(I Gj)] Gp Gq, Ch.bx Gt Gu Gv [(Sl Gr Gk Gs)] Gw Gx]) := by
 refine cal2 (n := 27) Tryz.func56 rfl rfl rfl rfl ?_
 intro S0 σ0 n0 hn0 H
 unfold M.impl_nearestBy__impl_nearestAmong_1 at h
 refine c_seq (rg (sa (.slice none 0 0) rfl (w_end (q_then (c_seq (rg (sm (I Gi) rfl ?_)))))))
 refine st (v := (.agg #[(I Gi), (.slice none 0 0)])) (rv_build (ps := [(0, (I Gi))]) Tryz.underlying134 ti134 (bp134 Tryz.underlying134) rfl (by kernel_rfl)) ?_
 refine st_ex (ex_alloc (cs := [(I 0), (.slice none 0 0)]) H hn0 ti134 rfl) wn ?_
 rintro _ σ2 ⟨b1, rfl, H, -⟩
 refine st_exS (ex_store_box (k := 0) (cs := [(I 0), (.slice none 0 0)]) (vs := [(I Gi), (.slice none 0 0)]) (cs' := [(I Gi), (.slice none 0 0)]) H (i := 0) rfl ti134 rfl rfl rfl rfl rfl (Nat.le_of_ble_eq_true rfl) (by simp [plain]) rfl) wn ?_
 rintro σ3 ⟨H, -⟩
 refine w_end (q_then (c_seq (c_seq (rg (sm (Sl Az Ax Ba) rfl (st (v := (I (Ax.length : Int))) (rv_len Tryz.underlying26 rfl) (sm (I 0) rfl (w_end (q_then ?_)))))))))
 obtain ⟨o4, hj, h'⟩ := bind_some h
 clear h
 refine c_cut (fun e a w => e = .normal ∧ ∃ (ρ : Nat → Value) (σ : St) (aj1 : Option Addr) (cj2 : Nat), a = fr 27 (updL ρ [(2, (.func (.func 131) #[] #[(pt Gm Gn), (pt Gu Gv)])), (7, (pt b1 0))]) ∧ w = σ.w ∧ Hp S0 σ0 σ [Ch.bx n0 b1 0 [(I o4.1), (Sl aj1 o4.2 cj2)] [] [], Ch.own 0 0 (Sl aj1 o4.2 cj2) o4.2, Ch.bx Gl Gm Gn [(I Gj)] Gp Gq, Ch.ro 0 (Sl Gr Gk Gs) Gk, Ch.bx Gt Gu Gv [(Sl Gr Gk Gs)] Gw Gx]) ?_ ?_
 ·clear h'
  rename _ = some o4 => h
  refine c_blk ?_
  replace H := H.nilOwn (Int × Int) 0 0
  refine wp_loopM _ h (fun s5 a w => ∃ (ρ : Nat → Value) (σ : St) (aj1 : Option Addr) (cj2 : Nat), a = fr 27 (updL ρ [(2, (.func (.func 131) #[] #[(pt Gm Gn), (pt Gu Gv)])), (7, (pt b1 0)), (12, (Sl Az Ax Ba)), (13, (I (Ax.length : Int))), (14, (I s5.2))]) ∧ w = σ.w ∧ Hp S0 σ0 σ [Ch.bx n0 b1 0 [(I s5.1.1), (Sl aj1 s5.1.2 cj2)] [] [], Ch.own 0 0 (Sl aj1 s5.1.2 cj2) s5.1.2, Ch.bx Gl Gm Gn [(I Gj)] Gp Gq, Ch.ro 0 (Sl Gr Gk Gs) Gk, Ch.bx Gt Gu Gv [(Sl Gr Gk Gs)] Gw Gx, Ch.ro 0 (Sl Az Ax Ba) Ax]) ⟨_, σ3, none, 0, fr_join ⟨rfl, rfl, rfl, rfl, rfl, trivial⟩, rfl, H.sel' [1, 0, 3, 5, 4, 2] rfl rfl⟩ ?_
  clear h H
  rintro s5 a w o ⟨ρ, σ6, a7, c8, rfl, rfl, H⟩ h hres
  refine c_seq (rg (st (v := (B (decide (s5.2 < (Ax.length : Int))))) (rv_lss (a := s5.2) (b := (Ax.length : Int)) rfl rfl) (w_end (q_then (c_seq ?_)))))
  refine cd_cond (decide (s5.2 < (Ax.length : Int))) rfl (fun hb9 => ?_) (fun hb9 => ?_)
  ·replace h := bif_t hb9 h
   refine c_skip (q_then (c_seq (c_blk (c_seq (rg ?_)))))
   revert h; refine br fun x10 hx11 h => ?_
   obtain ⟨b13, o14, hi12, -⟩ := (H.ro 5 rfl).ix hx11
   refine st (v := (pt b13 o14)) (rv_ix Tryz.underlying26 ti34 rfl rfl hi12) ?_
   obtain ⟨_, ⟨_, _, rfl, rfl, ⟨_, _, rfl, ⟨_, rfl, hR19⟩, rfl⟩⟩, hl15, hc16⟩ := ((H.ro 5 rfl).at hx11 hi12).cells
   obtain ⟨a17, c18, rfl⟩ := hR19.isSl
   replace H := H.add (d := Ch.ro 0 (Sl a17 x10.2.1 c18) x10.2.1) hR19 (fun _ h => h)
   clear hR19
   refine st (v := (.agg #[(I x10.1), (Sl a17 x10.2.1 c18), (I x10.2.2)])) (rv_load Tryz.underlying34 rfl ti34 rfl hl15 hc16) (st_ex (ex_alloc (cs := [(I 0), (.slice none 0 0), (I 0)]) H hn0 ti34 rfl) wn ?_)
   rintro _ σ21 ⟨b20, rfl, H, -⟩
   refine st_exS (ex_store_box (k := 0) (cs := [(I 0), (.slice none 0 0), (I 0)]) (vs := [(I x10.1), (Sl a17 x10.2.1 c18), (I x10.2.2)]) (cs' := [(I x10.1), (Sl a17 x10.2.1 c18), (I x10.2.2)]) H (i := 0) rfl ti34 rfl rfl rfl rfl rfl (Nat.le_of_ble_eq_true rfl) (by simp [plain]) rfl) wn ?_
   rintro σ22 ⟨H, -⟩
   refine w_end (q_then ?_)
   have hc23 := H.cell (u := (I x10.1)) (o' := 0) 0 0 rfl rfl rfl
   have hc24 := H.cells 0 rfl
   revert h; refine br fun r25 hx26 h => ?_
   have hc27 := c_impl_nearestAmong_1__p3__p24 (Bf := a17) (Bg := c18) (Di := Gl) (Dj := Gm) (Dk := Gn) (Dm := Gp) (Dn := Gq) (Gf := Gt) (Ce := Gu) (Cf := Gv) (Gg := Gw) (Gh := Gx) (Gd := Gr) (Ge := Gs) hx26
   have Hs := H
   refine rg2 (σ := σ22) (Nm := Unit) 5 [4] [[false], [true]] [[(0, 0), (1, 1)], [(0, 0), (1, 1)], [(0, 0)], [(0, 0)], [(0, 1)]] 1 [fun _ => fun σm => Hp S0 σ0 σm [Ch.bx n0 b20 0 [(I x10.1), (Sl a17 x10.2.1 c18), (I x10.2.2)] [] [], Ch.ro 0 (Sl a17 x10.2.1 c18) x10.2.1, Ch.bx n0 b1 0 [(I s5.1.1), (Sl a7 s5.1.2 c8)] [] [], Ch.own 0 0 (Sl a7 s5.1.2 c8) s5.1.2, Ch.bx Gl Gm Gn [(I Gj)] Gp Gq, Ch.ro 0 (Sl Gr Gk Gs) Gk, Ch.bx Gt Gu Gv [(Sl Gr Gk Gs)] Gw Gx, Ch.ro 0 (Sl Az Ax Ba) Ax] ∧ Md (cov []) σ22 σm, fun _ => fun σm => Hp S0 σ0 σm [Ch.bx Gl Gm Gn [(I Gj)] Gp Gq, Ch.bx Gt Gu Gv [(Sl Gr Gk Gs)] Gw Gx, Ch.bx n0 b20 0 [(I x10.1), (Sl a17 x10.2.1 c18), (I x10.2.2)] [] [], Ch.ro 0 (Sl a17 x10.2.1 c18) x10.2.1, Ch.bx n0 b1 0 [(I s5.1.1), (Sl a7 s5.1.2 c8)] [] [], Ch.own 0 0 (Sl a7 s5.1.2 c8) s5.1.2, Ch.ro 0 (Sl Gr Gk Gs) Gk, Ch.ro 0 (Sl Az Ax Ba) Ax] ∧ Md (fun i => (cov []) i ∨ (cov [Ch.ro 0 (Sl a17 x10.2.1 c18) x10.2.1, Ch.bx Gl Gm Gn [(I Gj)] Gp Gq, Ch.bx Gt Gu Gv [(Sl Gr Gk Gs)] Gw Gx, Ch.ro 0 (Sl Gr Gk Gs) Gk]) i) σ22 σm] [fun _ => (pt b20 0), fun _ => (I x10.1), fun _ => (.func (.func 131) #[] #[(pt Gm Gn), (pt Gu Gv)]), fun _ => (.agg #[(I x10.1), (Sl a17 x10.2.1 c18), (I x10.2.2)]), fun _ => (I r25)] () (by kernel_rfl) (by kernel_rfl) ?_ ?_ ?_
   ·intro σm m0
    exact ⟨H.grow (m0.mono fun _ h => h.elim), m0⟩
   ·refine ac rfl (by
      intro k _nm ρ σm hJ hoff hdep
      have e9 := look_off (N := 27) (hoff 9 rfl) rfl
      exact dp_v (v := (pt b20 0)) wn (rv_fieldAddr (off := 0) (ft := 3) Tryz.underlying34 rfl ti3 rfl e9) rfl hJ) ?_
    refine all_cons (by
      refine ⟨?_, ?_⟩
      ·intro _nm ρ σm hJ hoff hdep
       have e18 := hdep 0 rfl rfl 18 rfl
       obtain ⟨H, m⟩ := id hJ
       have hc23 := H.cell (u := (I x10.1)) (o' := 0) 0 0 rfl rfl rfl
       exact dp_v (v := (I x10.1)) wn (rv_load1 Tryz.underlying3 rfl e18 hc23) rfl hJ
      refine ⟨?_, ?_⟩
      ·intro _nm ρ σm hJ hoff hdep
       have e18 := hdep 0 rfl rfl 18 rfl
       obtain ⟨H, m⟩ := id hJ
       have hc23 := H.cell (u := (I x10.1)) (o' := 0) 2 0 rfl rfl rfl
       exact dp_v (v := (I x10.1)) wn (rv_load1 Tryz.underlying3 rfl e18 hc23) rfl hJ
      trivial) ?_
    refine ac rfl (by
      intro k _nm ρ σm hJ hoff hdep
      have e2 := look_off (N := 27) (hoff 2 rfl) rfl
      exact dp_v (v := (.func (.func 131) #[] #[(pt Gm Gn), (pt Gu Gv)])) wn (rv_move e2) rfl hJ) ?_
    refine all_cons (by
      refine ⟨?_, ?_⟩
      ·intro _nm ρ σm hJ hoff hdep
       have e9 := look_off (N := 27) (hoff 9 rfl) rfl
       obtain ⟨H, m⟩ := id hJ
       have hc24 := H.cells 0 rfl
       exact dp_v (v := (.agg #[(I x10.1), (Sl a17 x10.2.1 c18), (I x10.2.2)])) wn (rv_load (cs := [(I x10.1), (Sl a17 x10.2.1 c18), (I x10.2.2)]) Tryz.underlying34 rfl ti34 e9 rfl hc24) rfl hJ
      trivial) ?_
    refine all_cons (by
      refine ⟨?_, ?_⟩
      ·intro _nm ρ σm hJ hoff hdep
       have e21 : look 27 ρ 21 = (.agg #[(I x10.1), (Sl a17 x10.2.1 c18), (I x10.2.2)]) := hdep 3 rfl rfl 21 rfl
       have e20 := hdep 2 rfl rfl 20 rfl
       obtain ⟨H, m⟩ := id hJ
       refine dp_cx wn (cx_call hc27 (ent_v (cap := [(pt Gm Gn), (pt Gu Gv)]) hc27.fn e20 (by show [look 27 ρ 21] ++ [(pt Gm Gn), (pt Gu Gv)] = _; rw [e21]; rfl)) hn0 (H.sel' [1, 4, 6, 5, 0, 1, 2, 3, 5, 7] rfl rfl : Hp S0 σ0 _ ([_, _, _, _] ++ _))) ?_
       rintro _ σq ⟨_, ⟨rfl, rfl⟩, H2, m2⟩
       exact ⟨_, (), rfl, rfl, ⟨H2.sel' [0, 1, 2, 3, 4, 5, 6, 7] rfl rfl, m.comp m2⟩, stab [0, 1, 2, 3] (by kernel_rfl) ⟨rfl, rfl, rfl, rfl, trivial⟩⟩
      trivial) ?_
    exact all_nil
   ·intro _nm ρ σ28 hJ hoff hrel
    have e2 := look_off (N := 27) (hoff 2 rfl) rfl
    have e7 := look_off (N := 27) (hoff 7 rfl) rfl
    have e12 := look_off (N := 27) (hoff 12 rfl) rfl
    have e13 := look_off (N := 27) (hoff 13 rfl) rfl
    have e14 := look_off (N := 27) (hoff 14 rfl) rfl
    have e19 := hrel 1 rfl 19 rfl
    have e22 := hrel 4 rfl 22 rfl
    obtain ⟨H, -⟩ := (show Hp S0 σ0 σ28 [Ch.bx Gl Gm Gn [(I Gj)] Gp Gq, Ch.bx Gt Gu Gv [(Sl Gr Gk Gs)] Gw Gx, Ch.bx n0 b20 0 [(I x10.1), (Sl a17 x10.2.1 c18), (I x10.2.2)] [] [], Ch.ro 0 (Sl a17 x10.2.1 c18) x10.2.1, Ch.bx n0 b1 0 [(I s5.1.1), (Sl a7 s5.1.2 c8)] [] [], Ch.own 0 0 (Sl a7 s5.1.2 c8) s5.1.2, Ch.ro 0 (Sl Gr Gk Gs) Gk, Ch.ro 0 (Sl Az Ax Ba) Ax] ∧ Md (fun i => (cov []) i ∨ (cov [Ch.ro 0 (Sl a17 x10.2.1 c18) x10.2.1, Ch.bx Gl Gm Gn [(I Gj)] Gp Gq, Ch.bx Gt Gu Gv [(Sl Gr Gk Gs)] Gw Gx, Ch.ro 0 (Sl Gr Gk Gs) Gk]) i) σ22 σ28 from hJ)
    clear hJ Hs
    rw [fr_lookL (L := [(2, (.func (.func 131) #[] #[(pt Gm Gn), (pt Gu Gv)])), (7, (pt b1 0)), (12, (Sl Az Ax Ba)), (13, (I (Ax.length : Int))), (14, (I s5.2)), (19, (I x10.1)), (22, (I r25))]) ⟨e2, e7, e12, e13, e14, e19, e22, trivial⟩]
    clear hoff hrel e2 e7 e12 e13 e14 e19 e22
    refine st (v := (.agg #[(I x10.1), (I r25)])) (rv_build (ps := [(0, (I x10.1)), (1, (I r25))]) Tryz.underlying43 ti43 (bp43 Tryz.underlying43) rfl (by kernel_rfl)) ?_
    revert h; refine br fun r29 hx30 h => ?_
    have hc31 := c_impl_nearestHits_offer (Fh := n0) (Fi := b1) (Fj := 0) (Fk := []) (Fl := []) (Ff := a7) (Fg := c8) hx30
    refine st_call (cx_call hc31 (ent_f hc31.fn rfl) hn0 (H.sel' [4, 5, 0, 1, 2, 3, 6, 7] rfl rfl : Hp S0 σ0 _ ([_, _] ++ _))) wn ?_
    rintro _ σ34 ⟨_, ⟨a32, c33, rfl, rfl⟩, H, -⟩
    replace H : Hp _ _ _ [_, _, _, _, _, _, _, _] := H
    replace H : Hp S0 σ0 σ34 [Ch.bx n0 b1 0 [(I r29.1), (Sl a32 r29.2 c33)] [] [], Ch.own 0 0 (Sl a32 r29.2 c33) r29.2, Ch.bx Gl Gm Gn [(I Gj)] Gp Gq, Ch.bx Gt Gu Gv [(Sl Gr Gk Gs)] Gw Gx, Ch.ro 0 (Sl Gr Gk Gs) Gk, Ch.ro 0 (Sl Az Ax Ba) Ax] := H.sel' [0, 1, 2, 3, 6, 7] rfl rfl
    refine w_end (q_blk (q_then (rg (st (v := (I (w64 (s5.2 + 1)))) (rv_add (a := s5.2) (b := 1) rfl rfl) (sm (I (w64 (s5.2 + 1))) rfl (w_end (q_then ?_)))))))
    obtain rfl := sj h
    exact ⟨_, rfl, _, σ34, a32, c33, fr_join ⟨rfl, rfl, rfl, rfl, rfl, trivial⟩, rfl, H.sel' [0, 1, 2, 4, 3, 5] rfl rfl⟩
  ·replace h := bif_f hb9 h
   refine c_exit (q_then_x (q_then_x (q_blk_hit ?_)))
   obtain rfl := sj h
   obtain rfl := hres _ rfl
   exact ⟨rfl, _, σ6, a7, c8, fr_join ⟨rfl, rfl, trivial⟩, rfl, H.sel' [0, 1, 2, 3, 4] rfl rfl⟩
 ·clear hj
  have h := h'
  clear h' H
  rintro e a w ⟨rfl, ρ, σ35, a36, c37, rfl, rfl, H⟩
  refine q_then (c_seq (rg ?_))
  obtain ⟨σ38, hw39, H, -⟩ := H.pub 1 rfl (Nat.le_refl _)
  rw [← hw39]; clear hw39
  revert h; refine br fun r40 hx41 h => ?_
  have hc42 := c_impl_nearestHits_inOrder (Fh := n0) (Fi := b1) (Fj := 0) (Fk := []) (Fl := []) (Ff := a36) (Fg := c37) hx41
  refine st_call (cx_call hc42 (ent_f hc42.fn rfl) hn0 (H.sel' [1, 0, 0, 2, 3, 4] rfl rfl : Hp S0 σ0 _ ([_, _] ++ _))) wn ?_
  rintro _ σ45 ⟨_, ⟨a43, c44, rfl, rfl⟩, H, -⟩
  replace H : Hp _ _ _ [_, _, _, _, _, _] := H
  refine sa (Sl a43 r40 c44) rfl (w_end (q_then (c_ret ?_)))
  obtain rfl := sj h
  exact fin_ret (v := (Sl a43 r40 c44)) (results_ok Tryz.results56 (res_tmp (v := (Sl a43 r40 c44)) rfl res_nil) rfl) ⟨a43, c44, rfl, rfl⟩ (H.sel' [0, 3, 5] rfl rfl)

theorem c_impl_nearestAmong {Ax : List (Int × (List Int) × Int)} {Bh : Int} {Bs : List Int} {Gy : Int} {Az : Option Addr} {Ba : Nat} {Bt : Option Addr} {Bu : Nat} {r : (List (Int × Int))} (h : M.impl_nearestAmong Ax Bh Bs Gy = some r) :
    Cal2 Tryz.prog 69 [(Sl Az Ax Ba), (I Bh), (Sl Bt Bs Bu), (I Gy)] [Ch.ro 0 (Sl Az Ax Ba) Ax, Ch.ro 0 (Sl Bt Bs Bu) Bs] (fun n0 v L => ∃ (az1 : Option Addr), ∃ (cz2 : Nat), v = (Sl az1 r cz2) ∧ L = [Ch.own 0 n0 (Sl az1 r cz2) r]) := by
 refine cal2 (n := 13) Tryz.func69 rfl rfl rfl rfl ?_
 intro S0 σ0 n0 hn0 H
 unfold M.impl_nearestAmong at h
 refine c_seq (rg (st_ex (ex_box (cs := [(I Bh)]) H hn0 rfl rfl) wn ?_))
 rintro _ σ2 ⟨b1, rfl, H, -⟩
 refine st_ex (ex_box (cs := [(Sl Bt Bs Bu)]) H hn0 rfl rfl) wn ?_
 rintro _ σ4 ⟨b3, rfl, H, -⟩
 refine sa (.slice none 0 0) rfl (w_end (q_then (c_seq (rg (sm (Sl Az Ax Ba) rfl (sm (I Gy) rfl (st (v := (.func (.func 131) #[] #[(pt b1 0), (pt b3 0)])) (rv_makeFunc (vs := [(pt b1 0), (pt b3 0)]) rfl) ?_)))))))
 revert h; refine br fun r5 hx6 h => ?_
 have hc7 := c_impl_nearestBy__impl_nearestAmong_1 (Az := Az) (Ba := Ba) (Gl := n0) (Gm := b1) (Gn := 0) (Gp := []) (Gq := []) (Gt := n0) (Gu := b3) (Gv := 0) (Gw := []) (Gx := []) (Gr := Bt) (Gs := Bu) hx6
 refine st_call (cx_call hc7 (ent_f hc7.fn rfl) hn0 (H.sel' [2, 1, 0, 3, 2, 3] rfl rfl : Hp S0 σ0 _ ([_, _, _, _] ++ _))) wn ?_
 rintro _ σ10 ⟨_, ⟨a8, c9, rfl, rfl⟩, H, -⟩
 replace H : Hp _ _ _ [_, _, _, _, _] := H
 refine sa (Sl a8 r5 c9) rfl (w_end (q_then (c_ret ?_)))
 obtain rfl := sj h
 exact fin_ret (v := (Sl a8 r5 c9)) (results_ok Tryz.results69 (res_tmp (v := (Sl a8 r5 c9)) rfl res_nil) rfl) ⟨a8, c9, rfl, rfl⟩ (H.sel' [0] rfl rfl)

theorem c_impl_placeOf_1 {Be : Int × (List Int) × Int} {Ay : Int} {Bf : Option Addr} {Bg : Nat} {r : Int} (h : M.impl_placeOf_1 Be Ay = some r) :
    Cal2 Tryz.prog 144 [(.agg #[(I Be.1), (Sl Bf Be.2.1 Bg), (I Be.2.2)]), (I Ay)] [Ch.ro 0 (Sl Bf Be.2.1 Bg) Be.2.1] (fun n0 v L => v = (I r) ∧ L = []) := by
 refine cal2 (n := 9) Tryz.func144 rfl rfl rfl rfl ?_
 intro S0 σ0 n0 hn0 H
 unfold M.impl_placeOf_1 at h
 refine c_seq (rg (st_ex (ex_box (cs := [(I Be.1), (Sl Bf Be.2.1 Bg), (I Be.2.2)]) H hn0 rfl rfl) wn ?_))
 rintro _ σ2 ⟨b1, rfl, H, -⟩
 refine sa (I 0) rfl (w_end (q_then (c_seq (rg (st (v := (pt b1 0)) (rv_fieldAddr (off := 0) (ft := 3) Tryz.underlying34 rfl ti3 rfl rfl) ?_)))))
 have hc3 := H.cell (u := (I Be.1)) (o' := 0) 0 0 rfl rfl rfl
 refine st (v := (I Be.1)) (rv_load1 Tryz.underlying3 rfl rfl hc3) (sm (I Ay) rfl ?_)
 revert h; refine br fun r4 hx5 h => ?_
 have hc6 := c_cmp_Compare_int hx5
 refine st_call (cx_call hc6 (ent_f hc6.fn rfl) hn0 (H.sel' [0, 1] rfl rfl : Hp S0 σ0 _ ([] ++ _))) wn ?_
 rintro _ σ7 ⟨_, ⟨rfl, rfl⟩, H, -⟩
 replace H : Hp _ _ _ [_, _] := H
 refine sa (I r4) rfl (w_end (q_then (c_ret ?_)))
 obtain rfl := sj h
 exact fin_ret (v := (I r4)) (results_ok Tryz.results144 (res_tmp (v := (I r4)) rfl res_nil) rfl) ⟨rfl, rfl⟩ (H.sel' [] rfl rfl)

theorem c_slices_BinarySearchFunc_impl_Item_impl_Item_int__impl_placeOf_1 {Be : List (Int × (List Int) × Int)} {Gz : Int} {Cl : Option Addr} {Cm : Nat} {r : Int × Bool} (h : M.slices_BinarySearchFunc_impl_Item_impl_Item_int__impl_placeOf_1 Be Gz = some r) :
    Cal2 Tryz.prog 143 [(Sl Cl Be Cm), (I Gz), (.func (.func 144) #[] #[])] [Ch.ro 0 (Sl Cl Be Cm) Be] (fun n0 v L => v = (.tuple #[(I r.1), (B r.2)]) ∧ L = []) := by
 refine cal2 (n := 49) Tryz.func143 rfl rfl rfl rfl ?_
 intro S0 σ0 n0 hn0 H
 unfold M.slices_BinarySearchFunc_impl_Item_impl_Item_int__impl_placeOf_1 at h
 refine c_seq (rg (sa (I 0) rfl (sa (B false) rfl (w_end (q_then (c_seq (rg (sm (Sl Cl Be Cm) rfl (st (v := (I (Be.length : Int))) (rv_len Tryz.underlying26 rfl) (sa (I (Be.length : Int)) rfl (w_end ?_)))))))))))
 refine q_then (c_seq (rg (sm (I (Be.length : Int)) rfl (sa (I 0) rfl (sa (I (Be.length : Int)) rfl (w_end (q_then (c_seq ?_))))))))
 obtain ⟨o1, hj, h'⟩ := bind_some h
 clear h
 refine c_cut (fun e a w => e = .normal ∧ ∃ (ρ : Nat → Value) (σ : St), a = fr 49 (updL ρ [(0, (Sl Cl Be Cm)), (1, (I Gz)), (2, (.func (.func 144) #[] #[])), (8, (I (Be.length : Int))), (9, (I o1))]) ∧ w = σ.w ∧ Hp S0 σ0 σ [Ch.ro 0 (Sl Cl Be Cm) Be]) ?_ ?_
 ·clear h'
  rename _ = some o1 => h
  refine c_blk (wp_loopM _ h (fun s2 a w => ∃ (ρ : Nat → Value) (σ : St), a = fr 49 (updL ρ [(0, (Sl Cl Be Cm)), (1, (I Gz)), (2, (.func (.func 144) #[] #[])), (8, (I (Be.length : Int))), (9, (I s2.1)), (10, (I s2.2))]) ∧ w = σ.w ∧ Hp S0 σ0 σ [Ch.ro 0 (Sl Cl Be Cm) Be]) ⟨_, σ0, fr_join ⟨rfl, rfl, rfl, rfl, rfl, rfl, trivial⟩, rfl, H.sel' [0] rfl rfl⟩ ?_)
  clear h H
  rintro s2 a w o ⟨ρ, σ3, rfl, rfl, H⟩ h hres
  refine c_seq (c_seq (rg (sm (I s2.1) rfl (sm (I s2.2) rfl (st (v := (B (decide (s2.1 < s2.2)))) (rv_lss (a := s2.1) (b := s2.2) rfl rfl) (w_end (q_then ?_)))))))
  refine cd_cond (decide (s2.1 < s2.2)) rfl (fun hb4 => ?_) (fun hb4 => ?_)
  ·replace h := bif_t hb4 h
   refine c_skip (q_then (c_blk (c_seq (rg (sm (I s2.1) rfl (sm (I s2.2) rfl (st (v := (I (w64 (s2.1 + s2.2)))) (rv_add (a := s2.1) (b := s2.2) rfl rfl) (st (v := (.int .u64 (wk .u64 (w64 (s2.1 + s2.2))))) (rvk_conv (k := .i64) (k' := .u64) (a := (w64 (s2.1 + s2.2))) Tryz.underlying3 Tryz.underlying150 rfl) ?_))))))))
   refine st (v := (.int .u64 (gshr .u64 (wk .u64 (w64 (s2.1 + s2.2))) 1))) (rvk_shr (k := .u64) (k' := .u64) (a := (wk .u64 (w64 (s2.1 + s2.2)))) (b := 1) rfl rfl (by decide)) ?_
   refine st (v := (I (wk .i64 (gshr .u64 (wk .u64 (w64 (s2.1 + s2.2))) 1)))) (rvk_conv (k := .u64) (k' := .i64) (a := (gshr .u64 (wk .u64 (w64 (s2.1 + s2.2))) 1)) Tryz.underlying150 Tryz.underlying3 rfl) (sa (I (wk .i64 (gshr .u64 (wk .u64 (w64 (s2.1 + s2.2))) 1))) rfl (w_end (q_then (c_seq (rg (sm (.func (.func 144) #[] #[]) rfl (sm (Sl Cl Be Cm) rfl (sm (I (wk .i64 (gshr .u64 (wk .u64 (w64 (s2.1 + s2.2))) 1))) rfl ?_))))))))
   revert h; refine br fun x5 hx6 h => ?_
   obtain ⟨b8, o9, hi7, -⟩ := (H.ro 0 rfl).ix hx6
   refine st (v := (pt b8 o9)) (rv_ix Tryz.underlying26 ti34 rfl rfl hi7) ?_
   obtain ⟨_, ⟨_, _, rfl, rfl, ⟨_, _, rfl, ⟨_, rfl, hR14⟩, rfl⟩⟩, hl10, hc11⟩ := ((H.ro 0 rfl).at hx6 hi7).cells
   obtain ⟨a12, c13, rfl⟩ := hR14.isSl
   replace H := H.add (d := Ch.ro 0 (Sl a12 x5.2.1 c13) x5.2.1) hR14 (fun _ h => h)
   clear hR14
   refine st (v := (.agg #[(I x5.1), (Sl a12 x5.2.1 c13), (I x5.2.2)])) (rv_load Tryz.underlying34 rfl ti34 rfl hl10 hc11) (sm (I Gz) rfl ?_)
   revert h; refine br fun r15 hx16 h => ?_
   have hc17 := c_impl_placeOf_1 (Bf := a12) (Bg := c13) hx16
   refine st_call (cx_call hc17 (ent_v (cap := []) hc17.fn rfl rfl) hn0 (H.sel' [0, 0, 1] rfl rfl : Hp S0 σ0 _ ([_] ++ _))) wn ?_
   rintro _ σ18 ⟨_, ⟨rfl, rfl⟩, H, -⟩
   replace H : Hp _ _ _ [_, _] := H
   refine st (v := (B (decide (r15 < 0)))) (rv_lss (a := r15) (b := 0) rfl rfl) (w_end (q_then ?_))
   refine cd_cond (decide (r15 < 0)) rfl (fun hb19 => ?_) (fun hb19 => ?_)
   ·replace h := bif_t hb19 h
    refine rg (sm (I (wk .i64 (gshr .u64 (wk .u64 (w64 (s2.1 + s2.2))) 1))) rfl (st (v := (I (w64 ((wk .i64 (gshr .u64 (wk .u64 (w64 (s2.1 + s2.2))) 1)) + 1)))) (rv_add (a := (wk .i64 (gshr .u64 (wk .u64 (w64 (s2.1 + s2.2))) 1))) (b := 1) rfl rfl) (sa (I (w64 ((wk .i64 (gshr .u64 (wk .u64 (w64 (s2.1 + s2.2))) 1)) + 1))) rfl (w_end (q_blk (q_then ?_))))))
    obtain rfl := sj h
    exact ⟨_, rfl, _, σ18, fr_join ⟨rfl, rfl, rfl, rfl, rfl, rfl, trivial⟩, rfl, H.sel' [1] rfl rfl⟩
   ·replace h := bif_f hb19 h
    refine rg (sm (I (wk .i64 (gshr .u64 (wk .u64 (w64 (s2.1 + s2.2))) 1))) rfl (sa (I (wk .i64 (gshr .u64 (wk .u64 (w64 (s2.1 + s2.2))) 1))) rfl (w_end (q_blk (q_then ?_)))))
    obtain rfl := sj h
    exact ⟨_, rfl, _, σ18, fr_join ⟨rfl, rfl, rfl, rfl, rfl, rfl, trivial⟩, rfl, H.sel' [1] rfl rfl⟩
  ·replace h := bif_f hb4 h
   refine c_exit (q_then_x (q_then_x (q_blk_hit ?_)))
   obtain rfl := sj h
   obtain rfl := hres _ rfl
   exact ⟨rfl, _, σ3, fr_join ⟨rfl, rfl, rfl, rfl, rfl, trivial⟩, rfl, H.sel' [0] rfl rfl⟩
 ·clear hj
  have h := h'
  clear h' H
  rintro e a w ⟨rfl, ρ, σ20, rfl, rfl, H⟩
  refine q_then (c_seq (rg (sm (I o1) rfl (sm (I o1) rfl (sm (I (Be.length : Int)) rfl (st (v := (B (decide (o1 < (Be.length : Int))))) (rv_lss (a := o1) (b := (Be.length : Int)) rfl rfl) (sm (B (decide (o1 < (Be.length : Int)))) rfl ?_)))))))
  rcases Bool.eq_false_or_eq_true (decide (o1 < (Be.length : Int))) with hb21 | hb21
  ·replace h := bif_t hb21 h
   refine st_g (v := (.func (.func 144) #[] #[])) (congrArg some hb21) (rv_move rfl) (st_g (v := (Sl Cl Be Cm)) (congrArg some hb21) (rv_move rfl) (st_g (v := (I o1)) (congrArg some hb21) (rv_move rfl) ?_))
   revert h; refine br fun x22 hx23 h => ?_
   obtain ⟨b25, o26, hi24, -⟩ := (H.ro 0 rfl).ix hx23
   refine st_g (v := (pt b25 o26)) (congrArg some hb21) (rv_ix Tryz.underlying26 ti34 rfl rfl hi24) ?_
   obtain ⟨_, ⟨_, _, rfl, rfl, ⟨_, _, rfl, ⟨_, rfl, hR31⟩, rfl⟩⟩, hl27, hc28⟩ := ((H.ro 0 rfl).at hx23 hi24).cells
   obtain ⟨a29, c30, rfl⟩ := hR31.isSl
   replace H := H.add (d := Ch.ro 0 (Sl a29 x22.2.1 c30) x22.2.1) hR31 (fun _ h => h)
   clear hR31
   refine st_g (v := (.agg #[(I x22.1), (Sl a29 x22.2.1 c30), (I x22.2.2)])) (congrArg some hb21) (rv_load Tryz.underlying34 rfl ti34 rfl hl27 hc28) (st_g (v := (I Gz)) (congrArg some hb21) (rv_move rfl) ?_)
   revert h; refine br fun r32 hx33 h => ?_
   have hc34 := c_impl_placeOf_1 (Bf := a29) (Bg := c30) hx33
   refine st_call (cx_call hc34 (ent_v (cap := []) hc34.fn rfl rfl) hn0 (H.sel' [0, 0, 1] rfl rfl : Hp S0 σ0 _ ([_] ++ _))) (wanted_yes rfl (by exact (congrArg some hb21))) ?_
   rintro _ σ35 ⟨_, ⟨rfl, rfl⟩, H, -⟩
   replace H : Hp _ _ _ [_, _] := H
   refine st_g (v := (B (r32 == 0))) (congrArg some hb21) (rv_eql (a := r32) (b := 0) rfl rfl) (st (v := (B (r32 == 0))) (rv_pick_t (congrArg B hb21) rfl) (sa (I o1) rfl (sa (B (r32 == 0)) rfl (w_end (q_then (c_ret ?_))))))
   obtain rfl := sj h
   exact fin_ret (v := (.tuple #[(I o1), (B (r32 == 0))])) (results_ok Tryz.results143 (res_tmp (v := (I o1)) rfl (res_tmp (v := (B (r32 == 0))) rfl res_nil)) rfl) ⟨rfl, rfl⟩ (H.sel' [] rfl rfl)
  ·replace h := bif_f hb21 h
   refine st_skip (congrArg some hb21) (st_skip (congrArg some hb21) (st_skip (congrArg some hb21) (st_skip (congrArg some hb21) (st_skip (congrArg some hb21) (st_skip (congrArg some hb21) (st_skip (congrArg some hb21) (st_skip (congrArg some hb21) (st (v := (B false)) (rv_pick_f (congrArg B hb21) rfl) (sa (I o1) rfl (sa (B false) rfl (w_end ?_)))))))))))
   refine q_then (c_ret ?_)
   obtain rfl := sj h
   exact fin_ret (v := (.tuple #[(I o1), (B false)])) (results_ok Tryz.results143 (res_tmp (v := (I o1)) rfl (res_tmp (v := (B false)) rfl res_nil)) rfl) ⟨rfl, rfl⟩ (H.sel' [] rfl rfl)

theorem c_impl_placeOf {Ax : List (Int × (List Int) × Int)} {Ay : Int} {Az : Option Addr} {Ba : Nat} {r : Int × Bool} (h : M.impl_placeOf Ax Ay = some r) :
    Cal2 Tryz.prog 93 [(Sl Az Ax Ba), (I Ay)] [Ch.ro 0 (Sl Az Ax Ba) Ax] (fun n0 v L => v = (.tuple #[(I r.1), (B r.2)]) ∧ L = []) := by
 refine cal2 (n := 11) Tryz.func93 rfl rfl rfl rfl ?_
 intro S0 σ0 n0 hn0 H
 unfold M.impl_placeOf at h
 refine c_seq (rg (sa (I 0) rfl (sa (B false) rfl (w_end (q_then (c_seq (rg (sm (Sl Az Ax Ba) rfl (sm (I Ay) rfl ?_)))))))))
 revert h; refine br fun r1 hx2 h => ?_
 have hc3 := c_slices_BinarySearchFunc_impl_Item_impl_Item_int__impl_placeOf_1 (Cl := Az) (Cm := Ba) hx2
 refine st_call (cx_call hc3 (ent_f hc3.fn rfl) hn0 (H.sel' [0, 0] rfl rfl : Hp S0 σ0 _ ([_] ++ _))) wn ?_
 rintro _ σ4 ⟨_, ⟨rfl, rfl⟩, H, -⟩
 replace H : Hp _ _ _ [_] := H
 refine st (v := (I r1.1)) (rv_extract rfl rfl) (st (v := (B r1.2)) (rv_extract rfl rfl) (sa (I r1.1) rfl (sa (B r1.2) rfl (w_end (q_then (c_ret ?_))))))
 obtain rfl := sj h
 exact fin_ret (v := (.tuple #[(I r1.1), (B r1.2)])) (results_ok Tryz.results93 (res_tmp (v := (I r1.1)) rfl (res_tmp (v := (B r1.2)) rfl res_nil)) rfl) ⟨rfl, rfl⟩ (H.sel' [] rfl rfl)

theorem c_impl_WalkTo {Ax : List (Int × (List Int) × Int)} {Bh : Int} {Bi : Int} {Ha : Int} {Hc : List Int} {Az : Option Addr} {Ba : Nat} {Hd : Option Addr} {He : Nat} {r : (List Int) × Bool} (h : M.impl_WalkTo Ax Bh Bi Ha Hc = some r) :
    Cal2 Tryz.prog 38 [(Sl Az Ax Ba), (I Bh), (I Bi), (I Ha), (Sl Hd Hc He)] [Ch.ro 0 (Sl Az Ax Ba) Ax, Ch.ro 0 (Sl Hd Hc He) Hc] (fun n0 v L => ∃ (az1 : Option Addr), ∃ (cz2 : Nat), v = (.tuple #[(Sl az1 r.1 cz2), (B r.2)]) ∧ L = [Ch.own n0 n0 (Sl az1 r.1 cz2) r.1]) := by
 refine cal2 (n := 76) Tryz.func38 rfl rfl rfl rfl ?_
 intro S0 σ0 n0 hn0 H
 unfold M.impl_WalkTo at h
 refine c_seq (rg (sa (.slice none 0 0) rfl (sa (B false) rfl (w_end (q_then (c_seq (c_seq ?_)))))))
 obtain ⟨o1, hj, h'⟩ := bind_some h
 clear h
 refine c_cut (fun e a w => e = .normal ∧ ∃ (ρ : Nat → Value) (σ : St), a = fr 76 (updL ρ [(0, (Sl Az Ax Ba)), (1, (I Bh)), (2, (I Bi)), (3, (I Ha)), (4, (Sl Hd Hc He)), (27, (B o1))]) ∧ w = σ.w ∧ Hp S0 σ0 σ [Ch.ro 0 (Sl Az Ax Ba) Ax, Ch.ro 0 (Sl Hd Hc He) Hc]) ?_ ?_
 ·clear h'
  rename _ = some o1 => h
  refine rg (sm (Sl Az Ax Ba) rfl (sm (I Bh) rfl (sm (I Bi) rfl ?_)))
  revert h; refine br fun r2 hx3 h => ?_
  have hc4 := c_impl_validLinks (Az := Az) (Ba := Ba) hx3
  refine st_call (cx_call hc4 (ent_f hc4.fn rfl) hn0 (H.sel' [0, 0, 1] rfl rfl : Hp S0 σ0 _ ([_] ++ _))) wn ?_
  rintro _ σ5 ⟨_, ⟨rfl, rfl⟩, H, -⟩
  replace H : Hp _ _ _ [_, _] := H
  refine st (v := (B (!r2))) (rv_not rfl) (sm (B (!r2)) rfl ?_)
  rcases Bool.eq_false_or_eq_true (!r2) with hb6 | hb6
  ·replace h := bif_t hb6 h
   refine st_skip (congrArg some hb6) (st_skip (congrArg some hb6) (st_skip (congrArg some hb6) (st (v := (B true)) (rv_pick_t (congrArg B hb6) rfl) (w_end ?_))))
   obtain rfl := sj h
   exact ⟨rfl, _, σ5, fr_join ⟨rfl, rfl, rfl, rfl, rfl, rfl, trivial⟩, rfl, H.sel' [0, 1] rfl rfl⟩
  ·replace h := bif_f hb6 h
   refine st_g (v := (Sl Hd Hc He)) (congrArg some hb6) (rv_move rfl) ?_
   revert h; refine br fun r7 hx8 h => ?_
   have hc9 := c_impl_ValidVector (Af := Hd) (Ag := He) hx8
   refine st_call (cx_call hc9 (ent_f hc9.fn rfl) hn0 (H.sel' [1, 0, 1] rfl rfl : Hp S0 σ0 _ ([_] ++ _))) (wanted_yes rfl (by exact (congrArg some hb6))) ?_
   rintro _ σ10 ⟨_, ⟨rfl, rfl⟩, H, -⟩
   replace H : Hp _ _ _ [_, _] := H
   refine st_g (v := (B (!r7))) (congrArg some hb6) (rv_not rfl) (st (v := (B (!r7))) (rv_pick_f (congrArg B hb6) rfl) (w_end ?_))
   obtain rfl := sj h
   exact ⟨rfl, _, σ10, fr_join ⟨rfl, rfl, rfl, rfl, rfl, rfl, trivial⟩, rfl, H.sel' [0, 1] rfl rfl⟩
 ·clear hj
  have h := h'
  clear h' H
  rintro e a w ⟨rfl, ρ, σ11, rfl, rfl, H⟩
  refine q_then ?_
  refine cd_cond o1 rfl (fun hb12 => ?_) (fun hb12 => ?_)
  ·replace h := bif_t hb12 h
   refine c_seq (rg (sa (.slice none 0 0) rfl (sa (B false) rfl (w_end (q_then (c_ret (q_then_r ?_)))))))
   replace H := H.nilOwn Int n0 n0
   obtain rfl := sj h
   exact fin_ret (v := (.tuple #[(.slice none 0 0), (B false)])) (results_ok Tryz.results38 (res_tmp (v := (.slice none 0 0)) rfl (res_tmp (v := (B false)) rfl res_nil)) rfl) ⟨none, 0, rfl, rfl⟩ (H.sel' [0] rfl rfl)
  ·replace h := bif_f hb12 h
   refine c_skip (q_then (c_seq (rg (sm (Sl Az Ax Ba) rfl (sm (I Ha) rfl ?_)))))
   revert h; refine br fun r13 hx14 h => ?_
   have hc15 := c_impl_placeOf (Az := Az) (Ba := Ba) hx14
   refine st_call (cx_call hc15 (ent_f hc15.fn rfl) hn0 (H.sel' [0, 0, 1] rfl rfl : Hp S0 σ0 _ ([_] ++ _))) wn ?_
   rintro _ σ16 ⟨_, ⟨rfl, rfl⟩, H, -⟩
   replace H : Hp _ _ _ [_, _] := H
   refine sm (.tuple #[(I r13.1), (B r13.2)]) rfl (st (v := (I r13.1)) (rv_extract rfl rfl) (st (v := (B r13.2)) (rv_extract rfl rfl) (sa (I r13.1) rfl (sa (B r13.2) rfl (w_end (q_then (c_seq (c_seq (rg (sm (B r13.2) rfl (st (v := (B (!r13.2))) (rv_not rfl) ?_)))))))))))
   refine w_end (q_then ?_)
   refine cd_cond (!r13.2) rfl (fun hb17 => ?_) (fun hb17 => ?_)
   ·replace h := bif_t hb17 h
    refine c_seq (rg (sa (.slice none 0 0) rfl (sa (B false) rfl (w_end (q_then (c_ret (q_then_r ?_)))))))
    replace H := H.nilOwn Int n0 n0
    obtain rfl := sj h
    exact fin_ret (v := (.tuple #[(.slice none 0 0), (B false)])) (results_ok Tryz.results38 (res_tmp (v := (.slice none 0 0)) rfl (res_tmp (v := (B false)) rfl res_nil)) rfl) ⟨none, 0, rfl, rfl⟩ (H.sel' [0] rfl rfl)
   ·replace h := bif_f hb17 h
    refine c_skip (q_then (c_seq (rg (sm (Sl Az Ax Ba) rfl (sm (I Bh) rfl (sm (I Bi) rfl ?_))))))
    revert h; refine br fun r18 hx19 h => ?_
    have hc20 := c_impl_linkItems (Az := Az) (Ba := Ba) hx19
    refine st_call (cx_call hc20 (ent_f hc20.fn rfl) hn0 (H.sel' [0, 0, 1] rfl rfl : Hp S0 σ0 _ ([_] ++ _))) wn ?_
    rintro _ σ24 ⟨_, ⟨b21, K22, rfl, rfl, hK23⟩, H, -⟩
    replace H : Hp _ _ _ [_, _, _] := H
    refine sa (.map (some b21)) rfl (w_end (q_then (c_seq (rg (sm (Sl Az Ax Ba) rfl (sm (I r13.1) rfl ?_))))))
    revert h; refine br fun x25 hx26 h => ?_
    obtain ⟨b28, o29, hi27, -⟩ := (H.ro 1 rfl).ix hx26
    refine st (v := (pt b28 o29)) (rv_ix Tryz.underlying26 ti34 rfl rfl hi27) ?_
    obtain ⟨_, ⟨_, _, rfl, rfl, ⟨_, _, rfl, ⟨_, rfl, hR34⟩, rfl⟩⟩, hl30, hc31⟩ := ((H.ro 1 rfl).at hx26 hi27).cells
    obtain ⟨a32, c33, rfl⟩ := hR34.isSl
    replace H := H.add (d := Ch.ro 0 (Sl a32 x25.2.1 c33) x25.2.1) hR34 (fun _ h => h)
    clear hR34
    refine st (v := (.agg #[(I x25.1), (Sl a32 x25.2.1 c33), (I x25.2.2)])) (rv_load Tryz.underlying34 rfl ti34 rfl hl30 hc31) (sm (I Bh) rfl (sm (Sl Hd Hc He) rfl ?_))
    revert h; refine br fun r35 hx36 h => ?_
    have hc37 := c_impl_hitOf (Bf := a32) (Bg := c33) (Bt := Hd) (Bu := He) hx36
    refine st_call (cx_call hc37 (ent_f hc37.fn rfl) hn0 (H.sel' [0, 3, 0, 1, 2, 3] rfl rfl : Hp S0 σ0 _ ([_, _] ++ _))) wn ?_
    rintro _ σ38 ⟨_, ⟨rfl, rfl⟩, H, -⟩
    replace H : Hp _ _ _ [_, _, _, _] := H
    refine sm (I Ha) rfl ?_
    refine st_ex (ex_buildSlice (el := n0) (xs := ([Ha] : List Int)) (ps := [(0, (I Ha))]) (cs := [(I Ha)]) H hn0 Tryz.underlying27 ti3 rfl rfl (by kernel_rfl) (.cons (c := [(I Ha)]) rfl (.nil)) rfl) wn ?_
    rintro _ σ40 ⟨b39, rfl, H, -⟩
    refine st_ex (ex_alloc (cs := [(I 0), (I 0)]) H hn0 ti43 rfl) wn ?_
    rintro _ σ42 ⟨b41, rfl, H, -⟩
    refine st_exS (ex_store_box (k := 0) (cs := [(I 0), (I 0)]) (vs := [(I r35.1), (I r35.2)]) (cs' := [(I r35.1), (I r35.2)]) H (i := 0) rfl ti43 rfl rfl rfl rfl rfl (Nat.le_of_ble_eq_true rfl) (by simp [plain]) rfl) wn ?_
    rintro σ43 ⟨H, -⟩
    refine sa (Sl (some ⟨b39, 0, none⟩) ([Ha] : List Int) 1) rfl (w_end (q_then ?_))
    obtain ⟨o44, hj, h'⟩ := bind_some h
    clear h
    refine c_cut (fun e a w => e = .ret ∧ ∃ (ρ : Nat → Value) (σ : St) (aj1 : Option Addr) (cj2 : Nat), a = fr 76 (updL ρ [(10, (Sl aj1 o44.1 cj2)), (11, (B o44.2))]) ∧ w = σ.w ∧ Hp S0 σ0 σ [Ch.own n0 n0 (Sl aj1 o44.1 cj2) o44.1]) ?_ ?_
    ·clear h'
     rename _ = some o44 => h
     refine c_blk ?_
     obtain ⟨σ46, hw47, H, -⟩ := H.mpPub 3 rfl hK23
     rw [← hw47]; clear hw47
     refine wp_loopM _ h (fun s45 a w => ∃ (ρ : Nat → Value) (σ : St) (aj1 : Option Addr) (cj2 : Nat), a = fr 76 (updL ρ [(1, (I Bh)), (4, (Sl Hd Hc He)), (14, (.map (some b21))), (15, (pt b41 0)), (16, (Sl aj1 s45.2 cj2))]) ∧ w = σ.w ∧ Hp S0 σ0 σ [Ch.bx n0 b41 0 [(I s45.1.1), (I s45.1.2)] [] [], Ch.ro 0 (Sl Hd Hc He) Hc, Ch.mr b21 r18, Ch.own n0 n0 (Sl aj1 s45.2 cj2) s45.2]) ⟨_, σ46, (some ⟨b39, 0, none⟩), 1, fr_join ⟨rfl, rfl, rfl, rfl, rfl, trivial⟩, rfl, H.sel' [1, 5, 0, 2] rfl rfl⟩ ?_
     clear h H
     rintro s45 a w o ⟨ρ, σ48, a49, c50, rfl, rfl, H⟩ h hres
     refine c_blk (c_seq (rg (sm (.map (some b21)) rfl (st (v := (pt b41 0)) (rv_fieldAddr (off := 0) (ft := 3) Tryz.underlying43 rfl ti3 rfl rfl) ?_))))
     have hc51 := H.cell (u := (I s45.1.1)) (o' := 0) 0 0 rfl rfl rfl
     refine st (v := (I s45.1.1)) (rv_load1 Tryz.underlying3 rfl rfl hc51) ?_
     obtain ⟨v55, hL54, hR56⟩ := mrGet (H.mr 2 rfl) s45.1.1
     obtain ⟨a52, c53, rfl⟩ := hR56.isSl
     replace H := H.add (d := Ch.ro 0 (Sl a52 (mget r18 s45.1.1) c53) (mget r18 s45.1.1)) hR56 (fun _ h => h)
     clear hR56
     refine st (v := (Sl a52 (mget r18 s45.1.1) c53)) (rv_lookup Tryz.underlying111 Tryz.underlying3 ti26 rfl rfl hL54) (sm (I Bh) rfl (sm (Sl Hd Hc He) rfl ?_))
     revert h; refine br fun r57 hx58 h => ?_
     have hc59 := c_impl_nearestAmong (Az := a52) (Ba := c53) (Bt := Hd) (Bu := He) hx58
     refine st_call (cx_call hc59 (ent_f hc59.fn rfl) hn0 (H.sel' [0, 2, 0, 1, 2, 3, 4] rfl rfl : Hp S0 σ0 _ ([_, _] ++ _))) wn ?_
     rintro _ σ62 ⟨_, ⟨a60, c61, rfl, rfl⟩, H, -⟩
     replace H : Hp _ _ _ [_, _, _, _, _, _] := H
     refine sa (Sl a60 r57 c61) rfl (w_end (q_then (c_seq (c_seq ?_))))
     obtain ⟨o63, hj, h'⟩ := bind_some h
     clear h
     refine c_cut (fun e a w => e = .normal ∧ ∃ (ρ : Nat → Value) (σ : St), a = fr 76 (updL ρ [(1, (I Bh)), (4, (Sl Hd Hc He)), (14, (.map (some b21))), (15, (pt b41 0)), (16, (Sl a49 s45.2 c50)), (17, (Sl a60 r57 c61)), (66, (B o63))]) ∧ w = σ.w ∧ Hp S0 σ0 σ [Ch.ro 0 (Sl Hd Hc He) Hc, Ch.mr b21 r18, Ch.bx n0 b41 0 [(I s45.1.1), (I s45.1.2)] [] [], Ch.own n0 n0 (Sl a49 s45.2 c50) s45.2, Ch.own 0 n0 (Sl a60 r57 c61) r57]) ?_ ?_
     ·clear h'
      rename _ = some o63 => h
      refine rgP (σ := σ62) 8 (by kernel_rfl) (by kernel_rfl) (by kernel_rfl) ?_
      refine sq (v := (Sl a60 r57 c61)) (rv_move rfl) (sq (v := (I (r57.length : Int))) (rv_len Tryz.underlying30 rfl) (sq (v := (B ((r57.length : Int) == 0))) (rv_eql (a := (r57.length : Int)) (b := 0) rfl rfl) (sq (v := (B ((r57.length : Int) == 0))) (rv_move rfl) ?_)))
      rcases Bool.eq_false_or_eq_true ((r57.length : Int) == 0) with hb64 | hb64
      ·replace h := bif_t hb64 h
       refine sq_skip (congrArg some hb64) (sq_skip (congrArg some hb64) (sq_skip (congrArg some hb64) (sq_skip (congrArg some hb64) (sq_end ?_))))
       intro σ65 hm66
       replace H := H.grow (hm66.mono fun _ h => h); clear hm66
       refine st_skip (congrArg some hb64) (st_skip (congrArg some hb64) (st (v := (B true)) (rv_pick_t (congrArg B hb64) rfl) (w_end ?_)))
       obtain rfl := sj h
       exact ⟨rfl, _, σ65, fr_join ⟨rfl, rfl, rfl, rfl, rfl, rfl, rfl, trivial⟩, rfl, H.sel' [3, 4, 2, 5, 0] rfl rfl⟩
      ·replace h := bif_f hb64 h
       refine sq_g (v := (Sl a60 r57 c61)) (congrArg some hb64) (rv_move rfl) ?_
       revert h; refine br fun x67 hx68 h => ?_
       obtain ⟨b70, o71, hi69, -⟩ := (H.own 0 rfl).ix hx68
       refine sq_g (v := (pt b70 o71)) (congrArg some hb64) (rv_ix Tryz.underlying30 ti43 rfl rfl hi69) ?_
       obtain ⟨_, ⟨_, _, rfl, rfl, rfl⟩, hl72, hc73⟩ := ((H.own 0 rfl).at hx68 hi69).cells
       refine sq_g (v := (.agg #[(I x67.1), (I x67.2)])) (congrArg some hb64) (rv_load Tryz.underlying43 rfl ti43 rfl hl72 hc73) ?_
       have hc74 := H.cells 2 rfl
       refine sq_g (v := (.agg #[(I s45.1.1), (I s45.1.2)])) (congrArg some hb64) (rv_load (cs := [(I s45.1.1), (I s45.1.2)]) Tryz.underlying43 rfl ti43 rfl rfl hc74) (sq_end ?_)
       intro σ75 hm76
       replace H := H.grow (hm76.mono fun _ h => h); clear hm76
       revert h; refine br fun r77 hx78 h => ?_
       have hc79 := c_impl_compareHits hx78
       refine st_call (cx_call hc79 (ent_f hc79.fn rfl) hn0 (H.sel' [0, 1, 2, 3, 4, 5] rfl rfl : Hp S0 σ0 _ ([] ++ _))) (wanted_yes rfl (by exact (congrArg some hb64))) ?_
       rintro _ σ80 ⟨_, ⟨rfl, rfl⟩, H, -⟩
       replace H : Hp _ _ _ [_, _, _, _, _, _] := H
       refine st_g (v := (B (decide (0 ≤ r77)))) (congrArg some hb64) (rv_geq (a := r77) (b := 0) rfl rfl) (st (v := (B (decide (0 ≤ r77)))) (rv_pick_f (congrArg B hb64) rfl) (w_end ?_))
       obtain rfl := sj h
       exact ⟨rfl, _, σ80, fr_join ⟨rfl, rfl, rfl, rfl, rfl, rfl, rfl, trivial⟩, rfl, H.sel' [3, 4, 2, 5, 0] rfl rfl⟩
     ·clear hj
      have h := h'
      clear h' H
      rintro e a w ⟨rfl, ρ, σ81, rfl, rfl, H⟩
      refine q_then ?_
      refine cd_cond o63 rfl (fun hb82 => ?_) (fun hb82 => ?_)
      ·replace h := bif_t hb82 h
       refine c_seq (rg (sm (Sl a49 s45.2 c50) rfl (sa (Sl a49 s45.2 c50) rfl (sa (B true) rfl (w_end (q_then (c_ret (q_then_r (q_blk_r (q_then_r (q_blk_r ?_)))))))))))
       obtain rfl := sj h
       obtain rfl := hres _ rfl
       exact ⟨rfl, _, σ81, a49, c50, fr_join ⟨rfl, rfl, trivial⟩, rfl, H.sel' [3] rfl rfl⟩
      ·replace h := bif_f hb82 h
       refine c_skip (q_then (c_seq (rg (sm (Sl a60 r57 c61) rfl ?_))))
       revert h; refine br fun x83 hx84 h => ?_
       obtain ⟨b86, o87, hi85, -⟩ := (H.own 4 rfl).ix hx84
       refine st (v := (pt b86 o87)) (rv_ix Tryz.underlying30 ti43 rfl rfl hi85) ?_
       obtain ⟨_, ⟨_, _, rfl, rfl, rfl⟩, hl88, hc89⟩ := ((H.own 4 rfl).at hx84 hi85).cells
       refine st (v := (.agg #[(I x83.1), (I x83.2)])) (rv_load Tryz.underlying43 rfl ti43 rfl hl88 hc89) ?_
       refine st_exS (ex_store_box (k := 0) (cs := [(I s45.1.1), (I s45.1.2)]) (vs := [(I x83.1), (I x83.2)]) (cs' := [(I x83.1), (I x83.2)]) H (i := 2) rfl ti43 rfl rfl rfl rfl rfl (Nat.le_of_ble_eq_true rfl) (by simp [plain]) rfl) wn ?_
       rintro σ90 ⟨H, -⟩
       refine w_end (q_then (rg (sm (Sl a49 s45.2 c50) rfl (st (v := (pt b41 0)) (rv_fieldAddr (off := 0) (ft := 3) Tryz.underlying43 rfl ti3 rfl rfl) ?_))))
       have hc91 := H.cell (u := (I x83.1)) (o' := 0) 0 0 rfl rfl rfl
       refine st (v := (I x83.1)) (rv_load1 Tryz.underlying3 rfl rfl hc91) ?_
       refine st_ex (ex_buildSlice (el := n0) (xs := ([x83.1] : List Int)) (ps := [(0, (I x83.1))]) (cs := [(I x83.1)]) H hn0 Tryz.underlying27 ti3 rfl rfl (by kernel_rfl) (.cons (c := [(I x83.1)]) rfl (.nil)) rfl) wn ?_
       rintro _ σ93 ⟨b92, rfl, H, -⟩
       revert h; refine br fun xs94 hx95 h => ?_
       refine st_ex (ex_append H (i := 4) rfl Tryz.underlying27 Tryz.underlying27 ti3 rfl rfl (by decide) (H.own 0 rfl).rd hx95 hn0 rfl rfl) wn ?_
       rintro _ σ98 ⟨a96, c97, rfl, H, -⟩
       refine sa (Sl a96 xs94 c97) rfl (w_end (q_blk (q_then ?_)))
       obtain rfl := sj h
       exact ⟨_, rfl, _, σ98, a96, c97, fr_join ⟨rfl, rfl, rfl, rfl, rfl, trivial⟩, rfl, H.sel' [2, 3, 4, 0] rfl rfl⟩
    ·clear hj
     have h := h'
     clear h' H
     rintro e a w ⟨rfl, ρ, σ99, a100, c101, rfl, rfl, H⟩
     obtain rfl := sj h
     exact fin_ret (v := (.tuple #[(Sl a100 o44.1 c101), (B o44.2)])) (results_ok Tryz.results38 (res_tmp (v := (Sl a100 o44.1 c101)) rfl (res_tmp (v := (B o44.2)) rfl res_nil)) rfl) ⟨a100, c101, rfl, rfl⟩ (H.sel' [0] rfl rfl)

theorem c_spec_validKind {Ah : Int}  {r : Bool} (h : M.spec_validKind Ah = some r) :
    Cal2 Tryz.prog 91 [(I Ah)] [] (fun n0 v L => v = (B r) ∧ L = []) := by
 refine cal2 (n := 5) Tryz.func91 rfl rfl rfl rfl ?_
 intro S0 σ0 n0 hn0 H
 unfold M.spec_validKind at h
 refine c_seq (rg (sa (B false) rfl (w_end (q_then (c_seq (rg (sm (I Ah) rfl ?_)))))))
 revert h; refine br fun r1 hx2 h => ?_
 have hc3 := c_spec_inRange hx2
 refine st_call (cx_call hc3 (ent_f hc3.fn rfl) hn0 (H.sel' [] rfl rfl : Hp S0 σ0 _ ([] ++ _))) wn ?_
 rintro _ σ4 ⟨_, ⟨rfl, rfl⟩, H, -⟩
 replace H : Hp _ _ _ [] := H
 refine sa (B r1) rfl (w_end (q_then (c_ret ?_)))
 obtain rfl := sj h
 exact fin_ret (v := (B r1)) (results_ok Tryz.results91 (res_tmp (v := (B r1)) rfl res_nil) rfl) ⟨rfl, rfl⟩ (H.sel' [] rfl rfl)

theorem c_spec_validQuery {Ax : List (Int × (List Int) × Int)} {Bh : Int} {Bs : List Int} {Az : Option Addr} {Ba : Nat} {Bt : Option Addr} {Bu : Nat} {r : Bool} (h : M.spec_validQuery Ax Bh Bs = some r) :
    Cal2 Tryz.prog 59 [(Sl Az Ax Ba), (I Bh), (Sl Bt Bs Bu)] [Ch.ro 0 (Sl Az Ax Ba) Ax, Ch.ro 0 (Sl Bt Bs Bu) Bs] (fun n0 v L => v = (B r) ∧ L = []) := by
 refine cal2 (n := 17) Tryz.func59 rfl rfl rfl rfl ?_
 intro S0 σ0 n0 hn0 H
 unfold M.spec_validQuery at h
 refine c_seq (rg (sa (B false) rfl (w_end (q_then (c_seq (rg (sm (Sl Az Ax Ba) rfl ?_)))))))
 revert h; refine br fun r1 hx2 h => ?_
 have hc3 := c_spec_validStore (Az := Az) (Ba := Ba) hx2
 refine st_call (cx_call hc3 (ent_f hc3.fn rfl) hn0 (H.sel' [0, 0, 1] rfl rfl : Hp S0 σ0 _ ([_] ++ _))) wn ?_
 rintro _ σ4 ⟨_, ⟨rfl, rfl⟩, H, -⟩
 replace H : Hp _ _ _ [_, _] := H
 refine sm (B r1) rfl ?_
 rcases Bool.eq_false_or_eq_true r1 with hb5 | hb5
 ·replace h := bif_t hb5 h
  refine st_g (v := (I Bh)) (congrArg some hb5) (rv_move rfl) ?_
  revert h; refine br fun r6 hx7 h => ?_
  have hc8 := c_spec_validKind hx7
  refine st_call (cx_call hc8 (ent_f hc8.fn rfl) hn0 (H.sel' [0, 1] rfl rfl : Hp S0 σ0 _ ([] ++ _))) (wanted_yes rfl (by exact (congrArg some hb5))) ?_
  rintro _ σ9 ⟨_, ⟨rfl, rfl⟩, H, -⟩
  replace H : Hp _ _ _ [_, _] := H
  refine st (v := (B r6)) (rv_pick_t (congrArg B hb5) rfl) (sm (B r6) rfl ?_)
  rcases Bool.eq_false_or_eq_true r6 with hb10 | hb10
  ·replace h := bif_t hb10 h
   refine st_g (v := (Sl Bt Bs Bu)) (congrArg some hb10) (rv_move rfl) ?_
   revert h; refine br fun r11 hx12 h => ?_
   have hc13 := c_spec_isVector (Af := Bt) (Ag := Bu) hx12
   refine st_call (cx_call hc13 (ent_f hc13.fn rfl) hn0 (H.sel' [1, 0, 1] rfl rfl : Hp S0 σ0 _ ([_] ++ _))) (wanted_yes rfl (by exact (congrArg some hb10))) ?_
   rintro _ σ14 ⟨_, ⟨rfl, rfl⟩, H, -⟩
   replace H : Hp _ _ _ [_, _] := H
   refine st (v := (B r11)) (rv_pick_t (congrArg B hb10) rfl) (sa (B r11) rfl (w_end (q_then (c_ret ?_))))
   obtain rfl := sj h
   exact fin_ret (v := (B r11)) (results_ok Tryz.results59 (res_tmp (v := (B r11)) rfl res_nil) rfl) ⟨rfl, rfl⟩ (H.sel' [] rfl rfl)
  ·replace h := bif_f hb10 h
   refine st_skip (congrArg some hb10) (st_skip (congrArg some hb10) (st (v := (B false)) (rv_pick_f (congrArg B hb10) rfl) (sa (B false) rfl (w_end (q_then (c_ret ?_))))))
   obtain rfl := sj h
   exact fin_ret (v := (B false)) (results_ok Tryz.results59 (res_tmp (v := (B false)) rfl res_nil) rfl) ⟨rfl, rfl⟩ (H.sel' [] rfl rfl)
 ·replace h := bif_f hb5 h
  refine st_skip (congrArg some hb5) (st_skip (congrArg some hb5) (st (v := (B false)) (rv_pick_f (congrArg B hb5) rfl) (sm (B false) rfl (st_skip rfl (st_skip rfl (st (v := (B false)) (rv_pick_f rfl rfl) (sa (B false) rfl (w_end (q_then (c_ret ?_))))))))))
  obtain rfl := sj h
  exact fin_ret (v := (B false)) (results_ok Tryz.results59 (res_tmp (v := (B false)) rfl res_nil) rfl) ⟨rfl, rfl⟩ (H.sel' [] rfl rfl)

theorem c_spec_keyAt {Ax : List (Int × (List Int) × Int)} {Ay : Int} {Az : Option Addr} {Ba : Nat} {r : Int} (h : M.spec_keyAt Ax Ay = some r) :
    Cal2 Tryz.prog 75 [(Sl Az Ax Ba), (I Ay)] [Ch.ro 0 (Sl Az Ax Ba) Ax] (fun n0 v L => v = (I r) ∧ L = []) := by
 refine cal2 (n := 20) Tryz.func75 rfl rfl rfl rfl ?_
 intro S0 σ0 n0 hn0 H
 unfold M.spec_keyAt at h
 refine c_seq (rg (sa (I 0) rfl (w_end (q_then (c_seq (c_seq (rg (sa (I 0) rfl (w_end (q_then ?_))))))))))
 obtain ⟨o1, hj, h'⟩ := bind_some h
 clear h
 refine c_cut (fun e a w => (∃ t, o1 = (.inl t) ∧ e = .normal ∧ ∃ (ρ : Nat → Value) (σ : St), a = fr 20 (updL ρ []) ∧ w = σ.w ∧ Hp S0 σ0 σ []) ∨ (∃ t, o1 = (.inr t) ∧ e = .ret ∧ ∃ (ρ : Nat → Value) (σ : St), a = fr 20 (updL ρ [(4, (I t))]) ∧ w = σ.w ∧ Hp S0 σ0 σ [])) ?_ ?_
 ·clear h'
  rename _ = some o1 => h
  refine c_blk (wp_loopM _ h (fun s2 a w => ∃ (ρ : Nat → Value) (σ : St), a = fr 20 (updL ρ [(0, (Sl Az Ax Ba)), (1, (I Ay)), (5, (I s2))]) ∧ w = σ.w ∧ Hp S0 σ0 σ [Ch.ro 0 (Sl Az Ax Ba) Ax]) ⟨_, σ0, fr_join ⟨rfl, rfl, rfl, trivial⟩, rfl, H.sel' [0] rfl rfl⟩ ?_)
  clear h H
  rintro s2 a w o ⟨ρ, σ3, rfl, rfl, H⟩ h hres
  refine c_seq (c_seq (rg (sm (I s2) rfl (sm (Sl Az Ax Ba) rfl (st (v := (I (Ax.length : Int))) (rv_len Tryz.underlying26 rfl) (st (v := (B (decide (s2 < (Ax.length : Int))))) (rv_lss (a := s2) (b := (Ax.length : Int)) rfl rfl) (w_end (q_then ?_))))))))
  refine cd_cond (decide (s2 < (Ax.length : Int))) rfl (fun hb4 => ?_) (fun hb4 => ?_)
  ·replace h := bif_t hb4 h
   refine c_skip (q_then (c_seq (c_blk (c_seq (rg (sm (Sl Az Ax Ba) rfl (sm (I s2) rfl ?_)))))))
   revert h; refine br fun x5 hx6 h => ?_
   obtain ⟨b8, o9, hi7, -⟩ := (H.ro 0 rfl).ix hx6
   refine st (v := (pt b8 o9)) (rv_ix Tryz.underlying26 ti34 rfl rfl hi7) (st (v := (pt b8 (o9 + 0))) (rv_fieldAddr (off := 0) (ft := 3) Tryz.underlying34 rfl ti3 rfl rfl) ?_)
   have hc10 := ((H.ro 0 rfl).at hx6 hi7).fst.int
   refine st (v := (I x5.1)) (rv_load1 Tryz.underlying3 rfl rfl hc10) (sm (I Ay) rfl (st (v := (B (x5.1 == Ay))) (rv_eql (a := x5.1) (b := Ay) rfl rfl) (w_end (q_then ?_))))
   refine cd_cond (x5.1 == Ay) rfl (fun hb11 => ?_) (fun hb11 => ?_)
   ·replace h := bif_t hb11 h
    refine c_seq (rg (sm (I s2) rfl (sa (I s2) rfl (w_end (q_then (c_ret (q_blk_r (q_then_r (q_then_r (q_blk_r ?_))))))))))
    obtain rfl := sj h
    obtain rfl := hres _ rfl
    exact .inr (⟨_, rfl, rfl, _, σ3, fr_join ⟨rfl, trivial⟩, rfl, H.sel' [] rfl rfl⟩)
   ·replace h := bif_f hb11 h
    refine c_skip (q_blk (q_then (rg (sm (I s2) rfl (st (v := (I (w64 (s2 + 1)))) (rv_add (a := s2) (b := 1) rfl rfl) (sa (I (w64 (s2 + 1))) rfl (w_end (q_then ?_))))))))
    obtain rfl := sj h
    exact ⟨_, rfl, _, σ3, fr_join ⟨rfl, rfl, rfl, trivial⟩, rfl, H.sel' [0] rfl rfl⟩
  ·replace h := bif_f hb4 h
   refine c_exit (q_then_x (q_then_x (q_blk_hit ?_)))
   obtain rfl := sj h
   obtain rfl := hres _ rfl
   exact .inl ⟨_, rfl, rfl, _, σ3, fr_join trivial, rfl, H.sel' [] rfl rfl⟩
 ·clear hj
  have h := h'
  clear h' H
  rintro e a w (⟨t12, rfl, rfl, ρ, σ13, rfl, rfl, H⟩ | ⟨t14, rfl, rfl, ρ, σ15, rfl, rfl, H⟩)
  ·replace h := selim_l h
   refine q_then (c_seq (rg (sa (I (-1)) rfl (w_end (q_then (c_ret ?_))))))
   obtain rfl := sj h
   exact fin_ret (v := (I (-1))) (results_ok Tryz.results75 (res_tmp (v := (I (-1))) rfl res_nil) rfl) ⟨rfl, rfl⟩ (H.sel' [] rfl rfl)
  ·replace h := selim_r h
   refine q_then_r ?_
   obtain rfl := sj h
   exact fin_ret (v := (I t14)) (results_ok Tryz.results75 (res_tmp (v := (I t14)) rfl res_nil) rfl) ⟨rfl, rfl⟩ (H.sel' [] rfl rfl)

theorem c_spec_nearer {Ak : Int × Int} {Am : Int × Int}  {r : Bool} (h : M.spec_nearer Ak Am = some r) :
    Cal2 Tryz.prog 100 [(.agg #[(I Ak.1), (I Ak.2)]), (.agg #[(I Am.1), (I Am.2)])] [] (fun n0 v L => v = (B r) ∧ L = []) := by
 refine cal2 (n := 24) Tryz.func100 rfl rfl rfl rfl ?_
 intro S0 σ0 n0 hn0 H
 unfold M.spec_nearer at h
 refine c_seq (rg (st_ex (ex_box (cs := [(I Ak.1), (I Ak.2)]) H hn0 rfl rfl) wn ?_))
 rintro _ σ2 ⟨b1, rfl, H, -⟩
 refine st_ex (ex_box (cs := [(I Am.1), (I Am.2)]) H hn0 rfl rfl) wn ?_
 rintro _ σ4 ⟨b3, rfl, H, -⟩
 refine sa (B false) rfl (w_end (q_then (c_seq (rg (st (v := (pt b1 1)) (rv_fieldAddr (off := 1) (ft := 3) Tryz.underlying43 rfl ti3 rfl rfl) ?_)))))
 have hc5 := H.cell (u := (I Ak.2)) (o' := 1) 1 1 rfl rfl rfl
 refine st (v := (I Ak.2)) (rv_load1 Tryz.underlying3 rfl rfl hc5) (st (v := (pt b3 1)) (rv_fieldAddr (off := 1) (ft := 3) Tryz.underlying43 rfl ti3 rfl rfl) ?_)
 have hc6 := H.cell (u := (I Am.2)) (o' := 1) 0 1 rfl rfl rfl
 refine st (v := (I Am.2)) (rv_load1 Tryz.underlying3 rfl rfl hc6) (st (v := (B (decide (Ak.2 < Am.2)))) (rv_lss (a := Ak.2) (b := Am.2) rfl rfl) (sm (B (decide (Ak.2 < Am.2))) rfl ?_))
 rcases Bool.eq_false_or_eq_true (decide (Ak.2 < Am.2)) with hb7 | hb7
 ·replace h := bif_t hb7 h
  refine st_skip (congrArg some hb7) (st_skip (congrArg some hb7) (st_skip (congrArg some hb7) (st_skip (congrArg some hb7) (st_skip (congrArg some hb7) (st_skip (congrArg some hb7) (st_skip_u rfl (st_skip_u rfl (st_skip_u rfl (st_skip_u rfl (st_skip_u rfl (st_skip (congrArg some hb7) ?_)))))))))))
  refine st (v := (B true)) (rv_pick_t (congrArg B hb7) rfl) (sa (B true) rfl (w_end (q_then (c_ret ?_))))
  obtain rfl := sj h
  exact fin_ret (v := (B true)) (results_ok Tryz.results100 (res_tmp (v := (B true)) rfl res_nil) rfl) ⟨rfl, rfl⟩ (H.sel' [] rfl rfl)
 ·replace h := bif_f hb7 h
  refine st_g (v := (pt b1 1)) (congrArg some hb7) (rv_fieldAddr (off := 1) (ft := 3) Tryz.underlying43 rfl ti3 rfl rfl) ?_
  have hc8 := H.cell (u := (I Ak.2)) (o' := 1) 1 1 rfl rfl rfl
  refine st_g (v := (I Ak.2)) (congrArg some hb7) (rv_load1 Tryz.underlying3 rfl rfl hc8) (st_g (v := (pt b3 1)) (congrArg some hb7) (rv_fieldAddr (off := 1) (ft := 3) Tryz.underlying43 rfl ti3 rfl rfl) ?_)
  have hc9 := H.cell (u := (I Am.2)) (o' := 1) 0 1 rfl rfl rfl
  refine st_g (v := (I Am.2)) (congrArg some hb7) (rv_load1 Tryz.underlying3 rfl rfl hc9) (st_g (v := (B (Ak.2 == Am.2))) (congrArg some hb7) (rv_eql (a := Ak.2) (b := Am.2) rfl rfl) (st_g (v := (B (Ak.2 == Am.2))) (congrArg some hb7) (rv_move rfl) ?_))
  rcases Bool.eq_false_or_eq_true (Ak.2 == Am.2) with hb10 | hb10
  ·replace h := bif_t hb10 h
   refine st_g (v := (pt b1 0)) (congrArg some hb10) (rv_fieldAddr (off := 0) (ft := 3) Tryz.underlying43 rfl ti3 rfl rfl) ?_
   have hc11 := H.cell (u := (I Ak.1)) (o' := 0) 1 0 rfl rfl rfl
   refine st_g (v := (I Ak.1)) (congrArg some hb10) (rv_load1 Tryz.underlying3 rfl rfl hc11) (st_g (v := (pt b3 0)) (congrArg some hb10) (rv_fieldAddr (off := 0) (ft := 3) Tryz.underlying43 rfl ti3 rfl rfl) ?_)
   have hc12 := H.cell (u := (I Am.1)) (o' := 0) 0 0 rfl rfl rfl
   refine st_g (v := (I Am.1)) (congrArg some hb10) (rv_load1 Tryz.underlying3 rfl rfl hc12) (st_g (v := (B (decide (Ak.1 < Am.1)))) (congrArg some hb10) (rv_lss (a := Ak.1) (b := Am.1) rfl rfl) (st_g (v := (B (decide (Ak.1 < Am.1)))) (congrArg some hb7) (rv_pick_t (congrArg B hb10) rfl) (st (v := (B (decide (Ak.1 < Am.1)))) (rv_pick_f (congrArg B hb7) rfl) (sa (B (decide (Ak.1 < Am.1))) rfl (w_end (q_then (c_ret ?_)))))))
   obtain rfl := sj h
   exact fin_ret (v := (B (decide (Ak.1 < Am.1)))) (results_ok Tryz.results100 (res_tmp (v := (B (decide (Ak.1 < Am.1)))) rfl res_nil) rfl) ⟨rfl, rfl⟩ (H.sel' [] rfl rfl)
  ·replace h := bif_f hb10 h
   refine st_skip (congrArg some hb10) (st_skip (congrArg some hb10) (st_skip (congrArg some hb10) (st_skip (congrArg some hb10) (st_skip (congrArg some hb10) (st_g (v := (B false)) (congrArg some hb7) (rv_pick_f (congrArg B hb10) rfl) (st (v := (B false)) (rv_pick_f (congrArg B hb7) rfl) (sa (B false) rfl (w_end (q_then (c_ret ?_))))))))))
   obtain rfl := sj h
   exact fin_ret (v := (B false)) (results_ok Tryz.results100 (res_tmp (v := (B false)) rfl res_nil) rfl) ⟨rfl, rfl⟩ (H.sel' [] rfl rfl)

theorem c_spec_addHit {Ax : List (Int × Int)} {Fe : Int × Int} {Hf : Int} {Az : Option Addr} {Ba : Nat} {r : (List (Int × Int))} (h : M.spec_addHit Ax Fe Hf = some r) :
    Cal2 Tryz.prog 61 [(Sl Az Ax Ba), (.agg #[(I Fe.1), (I Fe.2)]), (I Hf)] [Ch.ro 0 (Sl Az Ax Ba) Ax] (fun n0 v L => ∃ (az1 : Option Addr), ∃ (cz2 : Nat), v = (Sl az1 r cz2) ∧ L = [Ch.own n0 n0 (Sl az1 r cz2) r]) := by
 refine cal2 (n := 58) Tryz.func61 rfl rfl rfl rfl ?_
 intro S0 σ0 n0 hn0 H
 unfold M.spec_addHit at h
 refine c_seq (rg (st_ex (ex_box (cs := [(I Fe.1), (I Fe.2)]) H hn0 rfl rfl) wn ?_))
 rintro _ σ2 ⟨b1, rfl, H, -⟩
 refine sa (.slice none 0 0) rfl (w_end (q_then (c_seq ?_)))
 revert h; refine br fun xs4 hx5 h => ?_
 have hc8 := H.cells 0 rfl
 have Hs := H
 refine rg2 (σ := σ2) (Nm := (Nat) × (Option Addr) × (Nat) × (Nat)) 5 [0, 2, 4] [[false, false, false], [true, false, false], [false, false, true], [true, true, false], [true, false, true], [true, true, true]] [[(0, 1), (2, 4)], [(0, 0), (1, 1), (2, 2), (4, 4)], [(1, 3), (4, 5)], [(0, 0), (1, 1), (3, 3)], [(0, 2), (1, 4), (3, 5)]] 5 [fun ((b3, a6, c7, b9) : (Nat) × (Option Addr) × (Nat) × (Nat)) => fun σm => Hp S0 σ0 σm [Ch.bx n0 b1 0 [(I Fe.1), (I Fe.2)] [] [], Ch.ro 0 (Sl Az Ax Ba) Ax] ∧ Md (cov []) σ2 σm, fun ((b3, a6, c7, b9) : (Nat) × (Option Addr) × (Nat) × (Nat)) => fun σm => Hp S0 σ0 σm [Ch.own n0 n0 (Sl (some ⟨b3, 0, none⟩) ([] : List (Int × Int)) 0) ([] : List (Int × Int)), Ch.bx n0 b1 0 [(I Fe.1), (I Fe.2)] [] [], Ch.ro 0 (Sl Az Ax Ba) Ax] ∧ Md (cov []) σ2 σm, fun ((b3, a6, c7, b9) : (Nat) × (Option Addr) × (Nat) × (Nat)) => fun σm => Hp S0 σ0 σm [Ch.own n0 n0 (Sl (some ⟨b9, 0, none⟩) ([(Fe.1, Fe.2)] : List (Int × Int)) 1) ([(Fe.1, Fe.2)] : List (Int × Int)), Ch.bx n0 b1 0 [(I Fe.1), (I Fe.2)] [] [], Ch.ro 0 (Sl Az Ax Ba) Ax] ∧ Md (cov []) σ2 σm, fun ((b3, a6, c7, b9) : (Nat) × (Option Addr) × (Nat) × (Nat)) => fun σm => Hp S0 σ0 σm [Ch.own n0 n0 (Sl a6 xs4 c7) xs4, Ch.bx n0 b1 0 [(I Fe.1), (I Fe.2)] [] [], Ch.ro 0 (Sl Az Ax Ba) Ax] ∧ Md (fun i => (cov []) i ∨ (fun b => blk (Sl (some ⟨b3, 0, none⟩) ([] : List (Int × Int)) 0) = some b) i) σ2 σm, fun ((b3, a6, c7, b9) : (Nat) × (Option Addr) × (Nat) × (Nat)) => fun σm => Hp S0 σ0 σm [Ch.own n0 n0 (Sl (some ⟨b9, 0, none⟩) ([(Fe.1, Fe.2)] : List (Int × Int)) 1) ([(Fe.1, Fe.2)] : List (Int × Int)), Ch.own n0 n0 (Sl (some ⟨b3, 0, none⟩) ([] : List (Int × Int)) 0) ([] : List (Int × Int)), Ch.bx n0 b1 0 [(I Fe.1), (I Fe.2)] [] [], Ch.ro 0 (Sl Az Ax Ba) Ax] ∧ Md (cov []) σ2 σm, fun ((b3, a6, c7, b9) : (Nat) × (Option Addr) × (Nat) × (Nat)) => fun σm => Hp S0 σ0 σm [Ch.own n0 n0 (Sl (some ⟨b9, 0, none⟩) ([(Fe.1, Fe.2)] : List (Int × Int)) 1) ([(Fe.1, Fe.2)] : List (Int × Int)), Ch.own n0 n0 (Sl a6 xs4 c7) xs4, Ch.bx n0 b1 0 [(I Fe.1), (I Fe.2)] [] [], Ch.ro 0 (Sl Az Ax Ba) Ax] ∧ Md (fun i => (cov []) i ∨ (fun b => blk (Sl (some ⟨b3, 0, none⟩) ([] : List (Int × Int)) 0) = some b) i) σ2 σm] [fun ((b3, a6, c7, b9) : (Nat) × (Option Addr) × (Nat) × (Nat)) => (Sl (some ⟨b3, 0, none⟩) ([] : List (Int × Int)) 0), fun ((b3, a6, c7, b9) : (Nat) × (Option Addr) × (Nat) × (Nat)) => (Sl Az Ax Ba), fun ((b3, a6, c7, b9) : (Nat) × (Option Addr) × (Nat) × (Nat)) => (Sl a6 xs4 c7), fun ((b3, a6, c7, b9) : (Nat) × (Option Addr) × (Nat) × (Nat)) => (.agg #[(I Fe.1), (I Fe.2)]), fun ((b3, a6, c7, b9) : (Nat) × (Option Addr) × (Nat) × (Nat)) => (Sl (some ⟨b9, 0, none⟩) ([(Fe.1, Fe.2)] : List (Int × Int)) 1)] (0, none, 0, 0) (by kernel_rfl) (by kernel_rfl) ?_ ?_ ?_
 ·intro σm m0
  exact ⟨H.grow (m0.mono fun _ h => h.elim), m0⟩
 ·refine all_cons (by
    refine ⟨?_, ?_⟩
    ·rintro ⟨b3, a6, c7, b9⟩ ρ σm hJ hoff hdep
     obtain ⟨H, m⟩ := id hJ
     refine dp_ex wn (ex_buildSlice (el := n0) (xs := ([] : List (Int × Int))) (ps := []) (cs := []) H hn0 Tryz.underlying30 ti43 rfl rfl (by kernel_rfl) (.nil) rfl) ?_
     rintro _ σq ⟨b3x, rfl, H2, m2⟩
     exact ⟨_, (b3x, a6, c7, b9), rfl, rfl, ⟨H2.sel' [0, 1, 2] rfl rfl, m.comp0 m2⟩, stab [1, 3, 4] (by kernel_rfl) ⟨rfl, rfl, rfl, trivial⟩⟩
    refine ⟨?_, ?_⟩
    ·rintro ⟨b3, a6, c7, b9⟩ ρ σm hJ hoff hdep
     obtain ⟨H, m⟩ := id hJ
     refine dp_ex wn (ex_buildSlice (el := n0) (xs := ([] : List (Int × Int))) (ps := []) (cs := []) H hn0 Tryz.underlying30 ti43 rfl rfl (by kernel_rfl) (.nil) rfl) ?_
     rintro _ σq ⟨b3x, rfl, H2, m2⟩
     exact ⟨_, (b3x, a6, c7, b9), rfl, rfl, ⟨H2.sel' [1, 0, 2, 3] rfl rfl, m.comp0 m2⟩, stab [1, 3, 4] (by kernel_rfl) ⟨rfl, rfl, rfl, trivial⟩⟩
    trivial) ?_
  refine ac rfl (by
    intro k; rintro ⟨b3, a6, c7, b9⟩ ρ σm hJ hoff hdep
    have e0 := look_off (N := 58) (hoff 0 rfl) rfl
    exact dp_v (v := (Sl Az Ax Ba)) wn (rv_move e0) rfl hJ) ?_
  refine all_cons (by
    refine ⟨?_, ?_⟩
    ·rintro ⟨b3, a6, c7, b9⟩ ρ σm hJ hoff hdep
     have e10 := hdep 0 rfl rfl 10 rfl
     have e11 := hdep 1 rfl rfl 11 rfl
     obtain ⟨H, m⟩ := id hJ
     refine dp_ex wn (ex_append H (i := 0) rfl Tryz.underlying30 Tryz.underlying30 ti43 rfl rfl (by decide) ((H.ro 2 rfl).rd.sc) hx5 hn0 e10 e11) ?_
     rintro _ σq ⟨a6x, c7x, rfl, H2, m2⟩
     exact ⟨_, (b3, a6x, c7x, b9), rfl, rfl, ⟨H2.sel' [0, 1, 2] rfl rfl, m.comp m2⟩, stab [0, 1, 3, 4] (by kernel_rfl) ⟨rfl, rfl, rfl, rfl, trivial⟩⟩
    refine ⟨?_, ?_⟩
    ·rintro ⟨b3, a6, c7, b9⟩ ρ σm hJ hoff hdep
     have e10 := hdep 0 rfl rfl 10 rfl
     have e11 := hdep 1 rfl rfl 11 rfl
     obtain ⟨H, m⟩ := id hJ
     refine dp_ex wn (ex_append H (i := 1) rfl Tryz.underlying30 Tryz.underlying30 ti43 rfl rfl (by decide) ((H.ro 3 rfl).rd.sc) hx5 hn0 e10 e11) ?_
     rintro _ σq ⟨a6x, c7x, rfl, H2, m2⟩
     exact ⟨_, (b3, a6x, c7x, b9), rfl, rfl, ⟨H2.sel' [1, 0, 2, 3] rfl rfl, m.comp m2⟩, stab [0, 1, 3, 4] (by kernel_rfl) ⟨rfl, rfl, rfl, rfl, trivial⟩⟩
    trivial) ?_
  refine all_cons (by
    refine ⟨?_, ?_⟩
    ·rintro ⟨b3, a6, c7, b9⟩ ρ σm hJ hoff hdep
     have e4 := look_off (N := 58) (hoff 4 rfl) rfl
     obtain ⟨H, m⟩ := id hJ
     have hc8 := H.cells 0 rfl
     exact dp_v (v := (.agg #[(I Fe.1), (I Fe.2)])) wn (rv_load (cs := [(I Fe.1), (I Fe.2)]) Tryz.underlying43 rfl ti43 e4 rfl hc8) rfl hJ
    refine ⟨?_, ?_⟩
    ·rintro ⟨b3, a6, c7, b9⟩ ρ σm hJ hoff hdep
     have e4 := look_off (N := 58) (hoff 4 rfl) rfl
     obtain ⟨H, m⟩ := id hJ
     have hc8 := H.cells 1 rfl
     exact dp_v (v := (.agg #[(I Fe.1), (I Fe.2)])) wn (rv_load (cs := [(I Fe.1), (I Fe.2)]) Tryz.underlying43 rfl ti43 e4 rfl hc8) rfl hJ
    refine ⟨?_, ?_⟩
    ·rintro ⟨b3, a6, c7, b9⟩ ρ σm hJ hoff hdep
     have e4 := look_off (N := 58) (hoff 4 rfl) rfl
     obtain ⟨H, m⟩ := id hJ
     have hc8 := H.cells 1 rfl
     exact dp_v (v := (.agg #[(I Fe.1), (I Fe.2)])) wn (rv_load (cs := [(I Fe.1), (I Fe.2)]) Tryz.underlying43 rfl ti43 e4 rfl hc8) rfl hJ
    trivial) ?_
  refine all_cons (by
    refine ⟨?_, ?_⟩
    ·rintro ⟨b3, a6, c7, b9⟩ ρ σm hJ hoff hdep
     have e13 : look 58 ρ 13 = (.agg #[(I Fe.1), (I Fe.2)]) := hdep 3 rfl rfl 13 rfl
     obtain ⟨H, m⟩ := id hJ
     refine dp_ex wn (ex_buildSlice (el := n0) (xs := ([(Fe.1, Fe.2)] : List (Int × Int))) (ps := [(0, (.agg #[(I Fe.1), (I Fe.2)]))]) (cs := [(I Fe.1), (I Fe.2)]) H hn0 Tryz.underlying30 ti43 rfl (by show [(0, look 58 ρ 13)] = _; rw [e13]) (by kernel_rfl) (.cons (c := [(I Fe.1), (I Fe.2)]) ⟨[(I Fe.1)], [(I Fe.2)], rfl, rfl, rfl⟩ (.nil)) rfl) ?_
     rintro _ σq ⟨b9x, rfl, H2, m2⟩
     exact ⟨_, (b3, a6, c7, b9x), rfl, rfl, ⟨H2.sel' [0, 1, 2] rfl rfl, m.comp0 m2⟩, stab [0, 1, 2, 3] (by kernel_rfl) ⟨rfl, rfl, rfl, rfl, trivial⟩⟩
    refine ⟨?_, ?_⟩
    ·rintro ⟨b3, a6, c7, b9⟩ ρ σm hJ hoff hdep
     have e13 : look 58 ρ 13 = (.agg #[(I Fe.1), (I Fe.2)]) := hdep 3 rfl rfl 13 rfl
     obtain ⟨H, m⟩ := id hJ
     refine dp_ex wn (ex_buildSlice (el := n0) (xs := ([(Fe.1, Fe.2)] : List (Int × Int))) (ps := [(0, (.agg #[(I Fe.1), (I Fe.2)]))]) (cs := [(I Fe.1), (I Fe.2)]) H hn0 Tryz.underlying30 ti43 rfl (by show [(0, look 58 ρ 13)] = _; rw [e13]) (by kernel_rfl) (.cons (c := [(I Fe.1), (I Fe.2)]) ⟨[(I Fe.1)], [(I Fe.2)], rfl, rfl, rfl⟩ (.nil)) rfl) ?_
     rintro _ σq ⟨b9x, rfl, H2, m2⟩
     exact ⟨_, (b3, a6, c7, b9x), rfl, rfl, ⟨H2.sel' [0, 1, 2, 3] rfl rfl, m.comp0 m2⟩, stab [0, 1, 2, 3] (by kernel_rfl) ⟨rfl, rfl, rfl, rfl, trivial⟩⟩
    refine ⟨?_, ?_⟩
    ·rintro ⟨b3, a6, c7, b9⟩ ρ σm hJ hoff hdep
     have e13 : look 58 ρ 13 = (.agg #[(I Fe.1), (I Fe.2)]) := hdep 3 rfl rfl 13 rfl
     obtain ⟨H, m⟩ := id hJ
     refine dp_ex wn (ex_buildSlice (el := n0) (xs := ([(Fe.1, Fe.2)] : List (Int × Int))) (ps := [(0, (.agg #[(I Fe.1), (I Fe.2)]))]) (cs := [(I Fe.1), (I Fe.2)]) H hn0 Tryz.underlying30 ti43 rfl (by show [(0, look 58 ρ 13)] = _; rw [e13]) (by kernel_rfl) (.cons (c := [(I Fe.1), (I Fe.2)]) ⟨[(I Fe.1)], [(I Fe.2)], rfl, rfl, rfl⟩ (.nil)) rfl) ?_
     rintro _ σq ⟨b9x, rfl, H2, m2⟩
     exact ⟨_, (b3, a6, c7, b9x), rfl, rfl, ⟨H2.sel' [0, 1, 2, 3] rfl rfl, m.comp0 m2⟩, stab [0, 1, 2, 3] (by kernel_rfl) ⟨rfl, rfl, rfl, rfl, trivial⟩⟩
    trivial) ?_
  exact all_nil
 ·rintro ⟨b3, a6, c7, b9⟩ ρ σ10 hJ hoff hrel
  have e2 := look_off (N := 58) (hoff 2 rfl) rfl
  have e12 := hrel 2 rfl 12 rfl
  have e14 := hrel 4 rfl 14 rfl
  obtain ⟨H, -⟩ := (show Hp S0 σ0 σ10 [Ch.own n0 n0 (Sl (some ⟨b9, 0, none⟩) ([(Fe.1, Fe.2)] : List (Int × Int)) 1) ([(Fe.1, Fe.2)] : List (Int × Int)), Ch.own n0 n0 (Sl a6 xs4 c7) xs4, Ch.bx n0 b1 0 [(I Fe.1), (I Fe.2)] [] [], Ch.ro 0 (Sl Az Ax Ba) Ax] ∧ Md (fun i => (cov []) i ∨ (fun b => blk (Sl (some ⟨b3, 0, none⟩) ([] : List (Int × Int)) 0) = some b) i) σ2 σ10 from hJ)
  clear hJ Hs
  rw [fr_lookL (L := [(2, (I Hf)), (12, (Sl a6 xs4 c7)), (14, (Sl (some ⟨b9, 0, none⟩) ([(Fe.1, Fe.2)] : List (Int × Int)) 1))]) ⟨e2, e12, e14, trivial⟩]
  clear hoff hrel e2 e12 e14
  revert h; refine br fun xs11 hx12 h => ?_
  refine st_ex (ex_append H (i := 1) rfl Tryz.underlying30 Tryz.underlying30 ti43 rfl rfl (by decide) (H.own 0 rfl).rd hx12 hn0 rfl rfl) wn ?_
  rintro _ σ15 ⟨a13, c14, rfl, H, -⟩
  refine sa (Sl a13 xs11 c14) rfl (w_end (q_then (c_seq (c_seq (rg (sm (Sl a13 xs11 c14) rfl (st (v := (I (xs11.length : Int))) (rv_len Tryz.underlying30 rfl) (st (v := (I (w64 ((xs11.length : Int) - 1)))) (rv_sub (a := (xs11.length : Int)) (b := 1) rfl rfl) (sa (I (w64 ((xs11.length : Int) - 1))) rfl (w_end (q_then ?_)))))))))))
  obtain ⟨o16, hj, h'⟩ := bind_some h
  clear h
  refine c_cut (fun e a w => e = .normal ∧ ∃ (ρ : Nat → Value) (σ : St), a = fr 58 (updL ρ [(2, (I Hf)), (7, (Sl a13 o16 c14))]) ∧ w = σ.w ∧ Hp S0 σ0 σ [Ch.own n0 n0 (Sl a13 o16 c14) o16] ∧ o16.length = xs11.length) ?_ ?_
  ·clear h'
   rename _ = some o16 => h
   refine c_blk (wp_loopM _ h (fun s17 a w => ∃ (ρ : Nat → Value) (σ : St), a = fr 58 (updL ρ [(2, (I Hf)), (7, (Sl a13 s17.1 c14)), (8, (I s17.2))]) ∧ w = σ.w ∧ Hp S0 σ0 σ [Ch.own n0 n0 (Sl a13 s17.1 c14) s17.1] ∧ s17.1.length = xs11.length) ⟨_, σ15, fr_join ⟨rfl, rfl, rfl, trivial⟩, rfl, H.sel' [0] rfl rfl, rfl⟩ ?_)
   clear h H
   rintro s17 a w o ⟨ρ, σ18, rfl, rfl, H, hn19⟩ h hres
   refine c_seq (c_seq ?_)
   obtain ⟨o20, hj, h'⟩ := bind_some h
   clear h
   refine c_cut (fun e a w => e = .normal ∧ ∃ (ρ : Nat → Value) (σ : St), a = fr 58 (updL ρ [(2, (I Hf)), (7, (Sl a13 s17.1 c14)), (8, (I s17.2)), (32, (B o20))]) ∧ w = σ.w ∧ Hp S0 σ0 σ [Ch.own n0 n0 (Sl a13 s17.1 c14) s17.1]) ?_ ?_
   ·clear h'
    rename _ = some o20 => h
    refine rgP (σ := σ18) 12 (by kernel_rfl) (by kernel_rfl) (by kernel_rfl) ?_
    refine sq (v := (I s17.2)) (rv_move rfl) (sq (v := (B (decide (0 < s17.2)))) (rv_gtr (a := s17.2) (b := 0) rfl rfl) (sq (v := (B (decide (0 < s17.2)))) (rv_move rfl) ?_))
    rcases Bool.eq_false_or_eq_true (decide (0 < s17.2)) with hb21 | hb21
    ·replace h := bif_t hb21 h
     refine sq_g (v := (Sl a13 s17.1 c14)) (congrArg some hb21) (rv_move rfl) (sq_g (v := (I s17.2)) (congrArg some hb21) (rv_move rfl) ?_)
     revert h; refine br fun x22 hx23 h => ?_
     obtain ⟨b25, o26, hi24, -⟩ := (H.own 0 rfl).ix hx23
     refine sq_g (v := (pt b25 o26)) (congrArg some hb21) (rv_ix Tryz.underlying30 ti43 rfl rfl hi24) ?_
     obtain ⟨_, ⟨_, _, rfl, rfl, rfl⟩, hl27, hc28⟩ := ((H.own 0 rfl).at hx23 hi24).cells
     refine sq_g (v := (.agg #[(I x22.1), (I x22.2)])) (congrArg some hb21) (rv_load Tryz.underlying43 rfl ti43 rfl hl27 hc28) (sq_g (v := (Sl a13 s17.1 c14)) (congrArg some hb21) (rv_move rfl) (sq_g (v := (I s17.2)) (congrArg some hb21) (rv_move rfl) (sq_g (v := (I (w64 (s17.2 - 1)))) (congrArg some hb21) (rv_sub (a := s17.2) (b := 1) rfl rfl) ?_)))
     revert h; refine br fun x29 hx30 h => ?_
     obtain ⟨b32, o33, hi31, -⟩ := (H.own 0 rfl).ix hx30
     refine sq_g (v := (pt b32 o33)) (congrArg some hb21) (rv_ix Tryz.underlying30 ti43 rfl rfl hi31) ?_
     obtain ⟨_, ⟨_, _, rfl, rfl, rfl⟩, hl34, hc35⟩ := ((H.own 0 rfl).at hx30 hi31).cells
     refine sq_g (v := (.agg #[(I x29.1), (I x29.2)])) (congrArg some hb21) (rv_load Tryz.underlying43 rfl ti43 rfl hl34 hc35) (sq_end ?_)
     intro σ36 hm37
     replace H := H.grow (hm37.mono fun _ h => h); clear hm37
     revert h; refine br fun r38 hx39 h => ?_
     have hc40 := c_spec_nearer hx39
     refine st_call (cx_call hc40 (ent_f hc40.fn rfl) hn0 (H.sel' [0] rfl rfl : Hp S0 σ0 _ ([] ++ _))) (wanted_yes rfl (by exact (congrArg some hb21))) ?_
     rintro _ σ41 ⟨_, ⟨rfl, rfl⟩, H, -⟩
     replace H : Hp _ _ _ [_] := H
     refine st (v := (B r38)) (rv_pick_t (congrArg B hb21) rfl) (w_end ?_)
     obtain rfl := sj h
     exact ⟨rfl, _, σ41, fr_join ⟨rfl, rfl, rfl, rfl, trivial⟩, rfl, H.sel' [0] rfl rfl⟩
    ·replace h := bif_f hb21 h
     refine sq_skip (congrArg some hb21) (sq_skip (congrArg some hb21) (sq_skip (congrArg some hb21) (sq_skip (congrArg some hb21) (sq_skip (congrArg some hb21) (sq_skip (congrArg some hb21) (sq_skip (congrArg some hb21) (sq_skip (congrArg some hb21) (sq_skip (congrArg some hb21) (sq_end ?_)))))))))
     intro σ42 hm43
     replace H := H.grow (hm43.mono fun _ h => h); clear hm43
     refine st_skip (congrArg some hb21) (st (v := (B false)) (rv_pick_f (congrArg B hb21) rfl) (w_end ?_))
     obtain rfl := sj h
     exact ⟨rfl, _, σ42, fr_join ⟨rfl, rfl, rfl, rfl, trivial⟩, rfl, H.sel' [0] rfl rfl⟩
   ·clear hj
    have h := h'
    clear h' H
    rintro e a w ⟨rfl, ρ, σ44, rfl, rfl, H⟩
    refine q_then ?_
    refine cd_cond o20 rfl (fun hb45 => ?_) (fun hb45 => ?_)
    ·replace h := bif_t hb45 h
     refine c_skip (q_then (c_seq (c_blk (c_seq (rg (sm (Sl a13 s17.1 c14) rfl (sm (I s17.2) rfl ?_)))))))
     revert h; refine br fun x46 hx47 h => ?_
     obtain ⟨b49, o50, hi48, -⟩ := (H.own 0 rfl).ix hx47
     refine st (v := (pt b49 o50)) (rv_ix Tryz.underlying30 ti43 rfl rfl hi48) ?_
     obtain ⟨_, ⟨_, _, rfl, rfl, rfl⟩, hl51, hc52⟩ := ((H.own 0 rfl).at hx47 hi48).cells
     refine st (v := (.agg #[(I x46.1), (I x46.2)])) (rv_load Tryz.underlying43 rfl ti43 rfl hl51 hc52) (st_ex (ex_alloc (cs := [(I 0), (I 0)]) H hn0 ti43 rfl) wn ?_)
     rintro _ σ54 ⟨b53, rfl, H, -⟩
     refine st_exS (ex_store_box (k := 0) (cs := [(I 0), (I 0)]) (vs := [(I x46.1), (I x46.2)]) (cs' := [(I x46.1), (I x46.2)]) H (i := 0) rfl ti43 rfl rfl rfl rfl rfl (Nat.le_of_ble_eq_true rfl) (by simp [plain]) rfl) wn ?_
     rintro σ55 ⟨H, -⟩
     refine w_end (q_then (c_seq (rg (sm (Sl a13 s17.1 c14) rfl (sm (I s17.2) rfl (sm (Sl a13 s17.1 c14) rfl (sm (I s17.2) rfl (st (v := (I (w64 (s17.2 - 1)))) (rv_sub (a := s17.2) (b := 1) rfl rfl) ?_))))))))
     revert h; refine br fun x56 hx57 h => ?_
     obtain ⟨b59, o60, hi58, -⟩ := (H.own 1 rfl).ix hx57
     refine st (v := (pt b59 o60)) (rv_ix Tryz.underlying30 ti43 rfl rfl hi58) ?_
     obtain ⟨_, ⟨_, _, rfl, rfl, rfl⟩, hl61, hc62⟩ := ((H.own 1 rfl).at hx57 hi58).cells
     refine st (v := (.agg #[(I x56.1), (I x56.2)])) (rv_load Tryz.underlying43 rfl ti43 rfl hl61 hc62) ?_
     revert h; refine br fun x63 hx64 h => ?_
     obtain ⟨b66, o67, hi65, -⟩ := (H.own 1 rfl).ix hx64
     refine st (v := (pt b66 o67)) (rv_ix Tryz.underlying30 ti43 rfl rfl hi65) ?_
     refine st_exS (ex_store_own (e' := (x56.1, x56.2)) (vs := [(I x56.1), (I x56.2)]) (k := 0) H (i := 1) rfl ti43 hx64 hi65 rfl rfl rfl rfl rfl (Nat.le_of_ble_eq_true rfl) (by simp [plain]) (by rintro _ ⟨_, _, rfl, rfl, rfl⟩; exact ⟨[(I x56.1)], [(I x56.2)], rfl, rfl, rfl⟩)) wn ?_
     rintro σ68 ⟨H, -⟩
     have hsl : (Sl a13 s17.1 c14) = (Sl a13 (s17.1.set s17.2.toNat (x56.1, x56.2)) c14) := sl_len List.length_set.symm
     rw [hsl]; rw [hsl] at H; clear hsl
     refine w_end (q_then (rg (sm (Sl a13 (s17.1.set s17.2.toNat (x56.1, x56.2)) c14) rfl (sm (I s17.2) rfl (st (v := (I (w64 (s17.2 - 1)))) (rv_sub (a := s17.2) (b := 1) rfl rfl) ?_)))))
     have hc69 := H.cells 1 rfl
     refine st (v := (.agg #[(I x46.1), (I x46.2)])) (rv_load (cs := [(I x46.1), (I x46.2)]) Tryz.underlying43 rfl ti43 rfl rfl hc69) ?_
     revert h; refine br fun x70 hx71 h => ?_
     obtain ⟨b73, o74, hi72, -⟩ := (H.own 0 rfl).ix hx71
     refine st (v := (pt b73 o74)) (rv_ix Tryz.underlying30 ti43 rfl rfl hi72) ?_
     refine st_exS (ex_store_own (e' := (x46.1, x46.2)) (vs := [(I x46.1), (I x46.2)]) (k := 0) H (i := 0) rfl ti43 hx71 hi72 rfl rfl rfl rfl rfl (Nat.le_of_ble_eq_true rfl) (by simp [plain]) (by rintro _ ⟨_, _, rfl, rfl, rfl⟩; exact ⟨[(I x46.1)], [(I x46.2)], rfl, rfl, rfl⟩)) wn ?_
     rintro σ75 ⟨H, -⟩
     have hsl : (Sl a13 (s17.1.set s17.2.toNat (x56.1, x56.2)) c14) = (Sl a13 ((s17.1.set s17.2.toNat (x56.1, x56.2)).set (w64 (s17.2 - 1)).toNat (x46.1, x46.2)) c14) := sl_len List.length_set.symm
     rw [hsl]; rw [hsl] at H; clear hsl
     refine w_end (q_blk (q_then (rg (sm (I s17.2) rfl (st (v := (I (w64 (s17.2 - 1)))) (rv_sub (a := s17.2) (b := 1) rfl rfl) (sa (I (w64 (s17.2 - 1))) rfl (w_end (q_then ?_))))))))
     obtain rfl := sj h
     exact ⟨_, rfl, _, σ75, fr_join ⟨rfl, rfl, rfl, trivial⟩, rfl, H.sel' [0] rfl rfl, (List.length_set.trans (List.length_set.trans hn19))⟩
    ·replace h := bif_f hb45 h
     refine c_exit (q_then_x (q_then_x (q_blk_hit ?_)))
     obtain rfl := sj h
     obtain rfl := hres _ rfl
     exact ⟨rfl, _, σ44, fr_join ⟨rfl, rfl, trivial⟩, rfl, H.sel' [0] rfl rfl, hn19⟩
  ·clear hj
   have h := h'
   clear h' H
   rintro e a w ⟨rfl, ρ, σ76, rfl, rfl, H, hn77⟩
   refine q_then (c_seq (rg (sm (Sl a13 o16 c14) rfl (sm (I Hf) rfl (sm (Sl a13 o16 c14) rfl (st (v := (I (o16.length : Int))) (rv_len Tryz.underlying30 rfl) (st (v := (I (min Hf (o16.length : Int)))) (rv_min rfl rfl) ?_)))))))
   revert h; refine br fun xs78 hx79 h => ?_
   obtain ⟨a80, c81, hs82, hR83, hb84⟩ := (H.own 0 rfl).slice hx79
   replace H := (H.front (i := 0) rfl).turn (d := Ch.own n0 n0 (Sl a80 xs78 c81) xs78) (fun _ => hR83) hb84; clear hR83 hb84
   refine st (v := (Sl a80 xs78 c81)) (rv_slice_h Tryz.underlying30 ti43 hs82 rfl rfl) (sa (Sl a80 xs78 c81) rfl (w_end (q_then (c_ret ?_))))
   obtain rfl := sj h
   exact fin_ret (v := (Sl a80 xs78 c81)) (results_ok Tryz.results61 (res_tmp (v := (Sl a80 xs78 c81)) rfl res_nil) rfl) ⟨a80, c81, rfl, rfl⟩ (H.sel' [0] rfl rfl)

theorem c_spec_size {Ek : Int}  {r : Int} (h : M.spec_size Ek = some r) :
    Cal2 Tryz.prog 123 [(I Ek)] [] (fun n0 v L => v = (I r) ∧ L = []) := by
 refine cal2 (n := 7) Tryz.func123 rfl rfl rfl rfl ?_
 intro S0 σ0 n0 hn0 H
 unfold M.spec_size at h
 refine c_seq (rg (sa (I 0) rfl (w_end (q_then (c_seq (rg (sm (I Ek) rfl (sm (I Ek) rfl (st (v := (I (w64 (0 - Ek)))) (rv_neg (a := Ek) rfl) (st (v := (I (max Ek (w64 (0 - Ek))))) (rv_max rfl rfl) (sa (I (max Ek (w64 (0 - Ek)))) rfl ?_)))))))))))
 refine w_end (q_then (c_ret ?_))
 obtain rfl := sj h
 exact fin_ret (v := (I (max Ek (w64 (0 - Ek))))) (results_ok Tryz.results123 (res_tmp (v := (I (max Ek (w64 (0 - Ek))))) rfl res_nil) rfl) ⟨rfl, rfl⟩ (H.sel' [] rfl rfl)

theorem c_spec_toInt {Hg : Bool}  {r : Int} (h : M.spec_toInt Hg = some r) :
    Cal2 Tryz.prog 124 [(B Hg)] [] (fun n0 v L => v = (I r) ∧ L = []) := by
 refine cal2 (n := 4) Tryz.func124 rfl rfl rfl rfl ?_
 intro S0 σ0 n0 hn0 H
 unfold M.spec_toInt at h
 refine c_seq (rg (sa (I 0) rfl (w_end (q_then (c_seq (c_seq (rg (sm (B Hg) rfl (w_end (q_then ?_))))))))))
 refine cd_cond Hg rfl (fun hb1 => ?_) (fun hb1 => ?_)
 ·replace h := bif_t hb1 h
  refine c_seq (rg (sa (I 1) rfl (w_end (q_then (c_ret (q_then_r ?_))))))
  obtain rfl := sj h
  exact fin_ret (v := (I 1)) (results_ok Tryz.results124 (res_tmp (v := (I 1)) rfl res_nil) rfl) ⟨rfl, rfl⟩ (H.sel' [] rfl rfl)
 ·replace h := bif_f hb1 h
  refine c_skip (q_then (c_seq (rg (sa (I 0) rfl (w_end (q_then (c_ret ?_)))))))
  obtain rfl := sj h
  exact fin_ret (v := (I 0)) (results_ok Tryz.results124 (res_tmp (v := (I 0)) rfl res_nil) rfl) ⟨rfl, rfl⟩ (H.sel' [] rfl rfl)

theorem c_spec_dist {Ah : Int} {Aq : List Int} {Ar : List Int} {As : Option Addr} {Au : Nat} {Av : Option Addr} {Aw : Nat} {r : Int} (h : M.spec_dist Ah Aq Ar = some r) :
    Cal2 Tryz.prog 62 [(I Ah), (Sl As Aq Au), (Sl Av Ar Aw)] [Ch.ro 0 (Sl As Aq Au) Aq, Ch.ro 0 (Sl Av Ar Aw) Ar] (fun n0 v L => v = (I r) ∧ L = []) := by
 refine cal2 (n := 50) Tryz.func62 rfl rfl rfl rfl ?_
 intro S0 σ0 n0 hn0 H
 unfold M.spec_dist at h
 refine c_seq (rg (sa (I 0) rfl (w_end (q_then (c_seq (rg (sa (I 0) rfl (w_end (q_then (c_seq (c_seq ?_)))))))))))
 refine rg (sa (I 0) rfl (w_end (q_then ?_)))
 obtain ⟨o1, hj, h'⟩ := bind_some h
 clear h
 refine c_cut (fun e a w => e = .normal ∧ ∃ (ρ : Nat → Value) (σ : St), a = fr 50 (updL ρ [(7, (I o1))]) ∧ w = σ.w ∧ Hp S0 σ0 σ []) ?_ ?_
 ·clear h'
  rename _ = some o1 => h
  refine c_blk (wp_loopM _ h (fun s2 a w => ∃ (ρ : Nat → Value) (σ : St), a = fr 50 (updL ρ [(0, (I Ah)), (1, (Sl As Aq Au)), (2, (Sl Av Ar Aw)), (7, (I s2.1)), (8, (I s2.2))]) ∧ w = σ.w ∧ Hp S0 σ0 σ [Ch.ro 0 (Sl As Aq Au) Aq, Ch.ro 0 (Sl Av Ar Aw) Ar]) ⟨_, σ0, fr_join ⟨rfl, rfl, rfl, rfl, rfl, trivial⟩, rfl, H.sel' [0, 1] rfl rfl⟩ ?_)
  clear h H
  rintro s2 a w o ⟨ρ, σ3, rfl, rfl, H⟩ h hres
  refine c_seq (c_seq (rg (sm (I s2.2) rfl (sm (Sl As Aq Au) rfl (st (v := (I (Aq.length : Int))) (rv_len Tryz.underlying27 rfl) (st (v := (B (decide (s2.2 < (Aq.length : Int))))) (rv_lss (a := s2.2) (b := (Aq.length : Int)) rfl rfl) (w_end (q_then ?_))))))))
  refine cd_cond (decide (s2.2 < (Aq.length : Int))) rfl (fun hb4 => ?_) (fun hb4 => ?_)
  ·replace h := bif_t hb4 h
   refine c_skip (q_then (c_seq ?_))
   obtain ⟨o5, hj, h'⟩ := bind_some h
   clear h
   refine c_cut (fun e a w => e = .normal ∧ ∃ (ρ : Nat → Value) (σ : St), a = fr 50 (updL ρ [(0, (I Ah)), (1, (Sl As Aq Au)), (2, (Sl Av Ar Aw)), (7, (I o5)), (8, (I s2.2))]) ∧ w = σ.w ∧ Hp S0 σ0 σ [Ch.ro 0 (Sl As Aq Au) Aq, Ch.ro 0 (Sl Av Ar Aw) Ar]) ?_ ?_
   ·clear h'
    rename _ = some o5 => h
    refine c_blk (c_seq ?_)
    refine rgP (σ := σ3) 8 (by kernel_rfl) (by kernel_rfl) (by kernel_rfl) ?_
    refine sq (v := (Sl As Aq Au)) (rv_move rfl) (sq (v := (I s2.2)) (rv_move rfl) ?_)
    revert h; refine br fun x6 hx7 h => ?_
    obtain ⟨b9, o10, hi8, -⟩ := (H.ro 0 rfl).ix hx7
    refine sq (v := (pt b9 o10)) (rv_ix Tryz.underlying27 ti3 rfl rfl hi8) ?_
    have hc11 := ((H.ro 0 rfl).at hx7 hi8).int
    refine sq (v := (I x6)) (rv_load1 Tryz.underlying3 rfl rfl hc11) (sq (v := (Sl Av Ar Aw)) (rv_move rfl) (sq (v := (I s2.2)) (rv_move rfl) ?_))
    revert h; refine br fun x12 hx13 h => ?_
    obtain ⟨b15, o16, hi14, -⟩ := (H.ro 1 rfl).ix hx13
    refine sq (v := (pt b15 o16)) (rv_ix Tryz.underlying27 ti3 rfl rfl hi14) ?_
    have hc17 := ((H.ro 1 rfl).at hx13 hi14).int
    refine sq (v := (I x12)) (rv_load1 Tryz.underlying3 rfl rfl hc17) (sq_end ?_)
    intro σ18 hm19
    replace H := H.grow (hm19.mono fun _ h => h); clear hm19
    refine st (v := (I (w64 (x6 - x12)))) (rv_sub (a := x6) (b := x12) rfl rfl) ?_
    revert h; refine br fun r20 hx21 h => ?_
    have hc22 := c_spec_size hx21
    refine st_call (cx_call hc22 (ent_f hc22.fn rfl) hn0 (H.sel' [0, 1] rfl rfl : Hp S0 σ0 _ ([] ++ _))) wn ?_
    rintro _ σ23 ⟨_, ⟨rfl, rfl⟩, H, -⟩
    replace H : Hp _ _ _ [_, _] := H
    refine sa (I r20) rfl (w_end (q_then (c_seq (rg (sm (I Ah) rfl (w_end (q_then (c_blk (c_seq (rg (st (v := (B (Ah == 1))) (rv_eql (a := Ah) (b := 1) rfl rfl) ?_)))))))))))
    refine sa (B (Ah == 1)) rfl (w_end (q_then ?_))
    refine cd_cond (Ah == 1) rfl (fun hb24 => ?_) (fun hb24 => ?_)
    ·replace h := bif_t hb24 h
     refine rg (sm (I s2.1) rfl (sm (I r20) rfl (st (v := (I (w64 (s2.1 + r20)))) (rv_add (a := s2.1) (b := r20) rfl rfl) (sa (I (w64 (s2.1 + r20))) rfl (w_end (q_blk (q_blk ?_)))))))
     obtain rfl := sj h
     exact ⟨rfl, _, σ23, fr_join ⟨rfl, rfl, rfl, rfl, rfl, trivial⟩, rfl, H.sel' [0, 1] rfl rfl⟩
    ·replace h := bif_f hb24 h
     refine c_seq (rg (st (v := (B (Ah == 2))) (rv_eql (a := Ah) (b := 2) rfl rfl) (sa (B (Ah == 2)) rfl (w_end (q_then ?_)))))
     refine cd_cond (Ah == 2) rfl (fun hb25 => ?_) (fun hb25 => ?_)
     ·replace h := bif_t hb25 h
      refine rg (sm (I s2.1) rfl (sm (I r20) rfl (st (v := (I (max s2.1 r20))) (rv_max rfl rfl) (sa (I (max s2.1 r20)) rfl (w_end (q_blk (q_blk ?_)))))))
      obtain rfl := sj h
      exact ⟨rfl, _, σ23, fr_join ⟨rfl, rfl, rfl, rfl, rfl, trivial⟩, rfl, H.sel' [0, 1] rfl rfl⟩
     ·replace h := bif_f hb25 h
      refine c_seq (rg (st (v := (B (Ah == 3))) (rv_eql (a := Ah) (b := 3) rfl rfl) (sa (B (Ah == 3)) rfl (w_end (q_then ?_)))))
      refine cd_cond (Ah == 3) rfl (fun hb26 => ?_) (fun hb26 => ?_)
      ·replace h := bif_t hb26 h
       refine rg (sm (I s2.1) rfl (sm (I r20) rfl (sm (I r20) rfl (st (v := (I (w64 (r20 * r20)))) (rv_mul (a := r20) (b := r20) rfl rfl) (st (v := (I (w64 (s2.1 + (w64 (r20 * r20)))))) (rv_add (a := s2.1) (b := (w64 (r20 * r20))) rfl rfl) (sa (I (w64 (s2.1 + (w64 (r20 * r20))))) rfl (w_end (q_blk (q_blk ?_)))))))))
       obtain rfl := sj h
       exact ⟨rfl, _, σ23, fr_join ⟨rfl, rfl, rfl, rfl, rfl, trivial⟩, rfl, H.sel' [0, 1] rfl rfl⟩
      ·replace h := bif_f hb26 h
       refine rg (sm (I s2.1) rfl (sm (I r20) rfl (st (v := (B (decide (0 < r20)))) (rv_gtr (a := r20) (b := 0) rfl rfl) ?_)))
       revert h; refine br fun r27 hx28 h => ?_
       have hc29 := c_spec_toInt hx28
       refine st_call (cx_call hc29 (ent_f hc29.fn rfl) hn0 (H.sel' [0, 1] rfl rfl : Hp S0 σ0 _ ([] ++ _))) wn ?_
       rintro _ σ30 ⟨_, ⟨rfl, rfl⟩, H, -⟩
       replace H : Hp _ _ _ [_, _] := H
       refine st (v := (I (w64 (s2.1 + r27)))) (rv_add (a := s2.1) (b := r27) rfl rfl) (sa (I (w64 (s2.1 + r27))) rfl (w_end (q_blk (q_blk ?_))))
       obtain rfl := sj h
       exact ⟨rfl, _, σ30, fr_join ⟨rfl, rfl, rfl, rfl, rfl, trivial⟩, rfl, H.sel' [0, 1] rfl rfl⟩
   ·clear hj
    have h := h'
    clear h' H
    rintro e a w ⟨rfl, ρ, σ31, rfl, rfl, H⟩
    refine q_then (rg (sm (I s2.2) rfl (st (v := (I (w64 (s2.2 + 1)))) (rv_add (a := s2.2) (b := 1) rfl rfl) (sa (I (w64 (s2.2 + 1))) rfl (w_end (q_then ?_))))))
    obtain rfl := sj h
    exact ⟨_, rfl, _, σ31, fr_join ⟨rfl, rfl, rfl, rfl, rfl, trivial⟩, rfl, H.sel' [0, 1] rfl rfl⟩
  ·replace h := bif_f hb4 h
   refine c_exit (q_then_x (q_then_x (q_blk_hit ?_)))
   obtain rfl := sj h
   obtain rfl := hres _ rfl
   exact ⟨rfl, _, σ3, fr_join ⟨rfl, trivial⟩, rfl, H.sel' [] rfl rfl⟩
 ·clear hj
  have h := h'
  clear h' H
  rintro e a w ⟨rfl, ρ, σ32, rfl, rfl, H⟩
  refine q_then (c_seq (rg (sm (I o1) rfl (sa (I o1) rfl (w_end (q_then (c_ret ?_)))))))
  obtain rfl := sj h
  exact fin_ret (v := (I o1)) (results_ok Tryz.results62 (res_tmp (v := (I o1)) rfl res_nil) rfl) ⟨rfl, rfl⟩ (H.sel' [] rfl rfl)

theorem c_spec_hit {Be : Int × (List Int) × Int} {Bh : Int} {Bs : List Int} {Bf : Option Addr} {Bg : Nat} {Bt : Option Addr} {Bu : Nat} {r : (Int × Int)} (h : M.spec_hit Be Bh Bs = some r) :
    Cal2 Tryz.prog 99 [(.agg #[(I Be.1), (Sl Bf Be.2.1 Bg), (I Be.2.2)]), (I Bh), (Sl Bt Bs Bu)] [Ch.ro 0 (Sl Bf Be.2.1 Bg) Be.2.1, Ch.ro 0 (Sl Bt Bs Bu) Bs] (fun n0 v L => v = (.agg #[(I r.1), (I r.2)]) ∧ L = []) := by
 refine cal2 (n := 15) Tryz.func99 rfl rfl rfl rfl ?_
 intro S0 σ0 n0 hn0 H
 unfold M.spec_hit at h
 refine c_seq (rg (st_ex (ex_box (cs := [(I Be.1), (Sl Bf Be.2.1 Bg), (I Be.2.2)]) H hn0 rfl rfl) wn ?_))
 rintro _ σ2 ⟨b1, rfl, H, -⟩
 refine st_ex (ex_alloc (cs := [(I 0), (I 0)]) H hn0 ti43 rfl) wn ?_
 rintro _ σ4 ⟨b3, rfl, H, -⟩
 refine w_end (q_then (c_seq ?_))
 have hc5 := H.cell (u := (I Be.1)) (o' := 0) 1 0 rfl rfl rfl
 have hc6 := H.cell (u := (Sl Bf Be.2.1 Bg)) (o' := 1) 1 1 rfl rfl rfl
 revert h; refine br fun r7 hx8 h => ?_
 have hc9 := c_spec_dist (As := Bf) (Au := Bg) (Av := Bt) (Aw := Bu) hx8
 have Hs := H
 refine rg2 (σ := σ4) (Nm := Unit) 7 [6] [[false], [true]] [[(0, 0), (1, 1)], [(0, 0), (1, 1)], [(0, 0)], [(0, 0)], [(0, 0)], [(0, 0)], [(0, 1)]] 1 [fun _ => fun σm => Hp S0 σ0 σm [Ch.bx n0 b3 0 [(I 0), (I 0)] [] [], Ch.bx n0 b1 0 [(I Be.1), (Sl Bf Be.2.1 Bg), (I Be.2.2)] [] [], Ch.ro 0 (Sl Bf Be.2.1 Bg) Be.2.1, Ch.ro 0 (Sl Bt Bs Bu) Bs] ∧ Md (cov []) σ4 σm, fun _ => fun σm => Hp S0 σ0 σm [Ch.bx n0 b3 0 [(I 0), (I 0)] [] [], Ch.bx n0 b1 0 [(I Be.1), (Sl Bf Be.2.1 Bg), (I Be.2.2)] [] [], Ch.ro 0 (Sl Bf Be.2.1 Bg) Be.2.1, Ch.ro 0 (Sl Bt Bs Bu) Bs] ∧ Md (cov []) σ4 σm] [fun _ => (pt b1 0), fun _ => (I Be.1), fun _ => (I Bh), fun _ => (pt b1 1), fun _ => (Sl Bf Be.2.1 Bg), fun _ => (Sl Bt Bs Bu), fun _ => (I r7)] () (by kernel_rfl) (by kernel_rfl) ?_ ?_ ?_
 ·intro σm m0
  exact ⟨H.grow (m0.mono fun _ h => h.elim), m0⟩
 ·refine ac rfl (by
    intro k _nm ρ σm hJ hoff hdep
    have e3 := look_off (N := 15) (hoff 3 rfl) rfl
    exact dp_v (v := (pt b1 0)) wn (rv_fieldAddr (off := 0) (ft := 3) Tryz.underlying34 rfl ti3 rfl e3) rfl hJ) ?_
  refine all_cons (by
    refine ⟨?_, ?_⟩
    ·intro _nm ρ σm hJ hoff hdep
     have e7 := hdep 0 rfl rfl 7 rfl
     obtain ⟨H, m⟩ := id hJ
     have hc5 := H.cell (u := (I Be.1)) (o' := 0) 1 0 rfl rfl rfl
     exact dp_v (v := (I Be.1)) wn (rv_load1 Tryz.underlying3 rfl e7 hc5) rfl hJ
    refine ⟨?_, ?_⟩
    ·intro _nm ρ σm hJ hoff hdep
     have e7 := hdep 0 rfl rfl 7 rfl
     obtain ⟨H, m⟩ := id hJ
     have hc5 := H.cell (u := (I Be.1)) (o' := 0) 1 0 rfl rfl rfl
     exact dp_v (v := (I Be.1)) wn (rv_load1 Tryz.underlying3 rfl e7 hc5) rfl hJ
    trivial) ?_
  refine ac rfl (by
    intro k _nm ρ σm hJ hoff hdep
    have e1 := look_off (N := 15) (hoff 1 rfl) rfl
    exact dp_v (v := (I Bh)) wn (rv_move e1) rfl hJ) ?_
  refine ac rfl (by
    intro k _nm ρ σm hJ hoff hdep
    have e3 := look_off (N := 15) (hoff 3 rfl) rfl
    exact dp_v (v := (pt b1 1)) wn (rv_fieldAddr (off := 1) (ft := 27) Tryz.underlying34 rfl ti27 rfl e3) rfl hJ) ?_
  refine all_cons (by
    refine ⟨?_, ?_⟩
    ·intro _nm ρ σm hJ hoff hdep
     have e10 := hdep 3 rfl rfl 10 rfl
     obtain ⟨H, m⟩ := id hJ
     have hc6 := H.cell (u := (Sl Bf Be.2.1 Bg)) (o' := 1) 1 1 rfl rfl rfl
     exact dp_v (v := (Sl Bf Be.2.1 Bg)) wn (rv_load1 Tryz.underlying27 rfl e10 hc6) rfl hJ
    trivial) ?_
  refine ac rfl (by
    intro k _nm ρ σm hJ hoff hdep
    have e2 := look_off (N := 15) (hoff 2 rfl) rfl
    exact dp_v (v := (Sl Bt Bs Bu)) wn (rv_move e2) rfl hJ) ?_
  refine all_cons (by
    refine ⟨?_, ?_⟩
    ·intro _nm ρ σm hJ hoff hdep
     have e9 : look 15 ρ 9 = (I Bh) := hdep 2 rfl rfl 9 rfl
     have e11 : look 15 ρ 11 = (Sl Bf Be.2.1 Bg) := hdep 4 rfl rfl 11 rfl
     have e12 : look 15 ρ 12 = (Sl Bt Bs Bu) := hdep 5 rfl rfl 12 rfl
     obtain ⟨H, m⟩ := id hJ
     refine dp_cx wn (cx_call hc9 (ent_f hc9.fn (by show [look 15 ρ 9, look 15 ρ 11, look 15 ρ 12] = _; rw [e9, e11, e12])) hn0 (H.sel' [2, 3, 0, 1, 2, 3] rfl rfl : Hp S0 σ0 _ ([_, _] ++ _))) ?_
     rintro _ σq ⟨_, ⟨rfl, rfl⟩, H2, m2⟩
     exact ⟨_, (), rfl, rfl, ⟨H2.sel' [0, 1, 2, 3] rfl rfl, m.comp0 (m2.mono (fun i h => by simp [cov, Ch.ro] at h))⟩, stab [0, 1, 2, 3, 4, 5] (by kernel_rfl) ⟨rfl, rfl, rfl, rfl, rfl, rfl, trivial⟩⟩
    trivial) ?_
  exact all_nil
 ·intro _nm ρ σ10 hJ hoff hrel
  have e6 := look_off (N := 15) (hoff 6 rfl) rfl
  have e8 := hrel 1 rfl 8 rfl
  have e13 := hrel 6 rfl 13 rfl
  obtain ⟨H, -⟩ := (show Hp S0 σ0 σ10 [Ch.bx n0 b3 0 [(I 0), (I 0)] [] [], Ch.bx n0 b1 0 [(I Be.1), (Sl Bf Be.2.1 Bg), (I Be.2.2)] [] [], Ch.ro 0 (Sl Bf Be.2.1 Bg) Be.2.1, Ch.ro 0 (Sl Bt Bs Bu) Bs] ∧ Md (cov []) σ4 σ10 from hJ)
  clear hJ Hs
  rw [fr_lookL (L := [(6, (pt b3 0)), (8, (I Be.1)), (13, (I r7))]) ⟨e6, e8, e13, trivial⟩]
  clear hoff hrel e6 e8 e13
  refine st (v := (.agg #[(I Be.1), (I r7)])) (rv_build (ps := [(0, (I Be.1)), (1, (I r7))]) Tryz.underlying43 ti43 (bp43 Tryz.underlying43) rfl (by kernel_rfl)) ?_
  refine st_exS (ex_store_box (k := 0) (cs := [(I 0), (I 0)]) (vs := [(I Be.1), (I r7)]) (cs' := [(I Be.1), (I r7)]) H (i := 0) rfl ti43 rfl rfl rfl rfl rfl (Nat.le_of_ble_eq_true rfl) (by simp [plain]) rfl) wn ?_
  rintro σ11 ⟨H, -⟩
  refine w_end (q_then (c_ret ?_))
  obtain rfl := sj h
  exact fin_ret (v := (.agg #[(I Be.1), (I r7)])) (results_ok Tryz.results99 (res_cell rfl (run_cellRes (cs := [(I Be.1), (I r7)]) Tryz.underlying43 rfl ti43 rfl (H.cells 0 rfl)) res_nil) rfl) ⟨rfl, rfl⟩ (H.sel' [] rfl rfl)

end Go.Vs
