/- The functions compute what their models say. -/
import Derived.Test.YtefojfippfoppaaGreatKProbeNearestMoreC2
set_option linter.unusedVariables false
set_option linter.unusedSimpArgs false
set_option maxRecDepth 20000
namespace Go.Vs
open Go Go.Proofs
attribute [local irreducible] Code.wp Code.wpIn wpList wpListIn wpQuiet Calls CallsIn

theorem c_cmp_Compare_int {Bj : Int} {Ce : Int}  {r : Int} (h : M.cmp_Compare_int Bj Ce = some r) :
    Cal2 Tryz.prog 100 [(I Bj), (I Ce)] [] (fun n0 v L => v = (I r) ∧ L = []) := by
 refine cal2 (n := 20) Tryz.func100 rfl rfl rfl rfl ?_
 intro S0 σ0 n0 hn0 H
 unfold M.cmp_Compare_int at h
 refine c_seq (rg (sa (I 0) rfl (w_end (q_then (c_seq (rg (sm (I Bj) rfl ?_)))))))
 revert h; refine br fun r1 hx2 h => ?_
 have hc3 := c_cmp_isNaN_int hx2
 refine st_call (cx_call hc3 (ent_f hc3.fn rfl) hn0 (H.sel' [] rfl rfl : Hp S0 σ0 _ ([] ++ _))) wn ?_
 rintro _ σ4 ⟨_, ⟨rfl, rfl⟩, H, -⟩
 replace H : Hp _ _ _ [] := H
 refine sa (B r1) rfl (w_end (q_then (c_seq (rg (sm (I Ce) rfl ?_)))))
 revert h; refine br fun r5 hx6 h => ?_
 have hc7 := c_cmp_isNaN_int hx6
 refine st_call (cx_call hc7 (ent_f hc7.fn rfl) hn0 (H.sel' [] rfl rfl : Hp S0 σ0 _ ([] ++ _))) wn ?_
 rintro _ σ8 ⟨_, ⟨rfl, rfl⟩, H, -⟩
 replace H : Hp _ _ _ [] := H
 refine sa (B r5) rfl (w_end (q_then (c_seq (c_seq (rg (sm (B r1) rfl (w_end (q_then ?_))))))))
 refine cd_cond r1 rfl (fun hb9 => ?_) (fun hb9 => ?_)
 ·replace h := bif_t hb9 h
  refine c_seq (c_seq (rg (sm (B r5) rfl (w_end (q_then ?_)))))
  refine cd_cond r5 rfl (fun hb10 => ?_) (fun hb10 => ?_)
  ·replace h := bif_t hb10 h
   refine c_seq (rg (sa (I 0) rfl (w_end (q_then (c_ret (q_then_r (q_then_r ?_)))))))
   obtain rfl := sj h
   exact fin_ret (v := (I 0)) (results_ok Tryz.results100 (res_tmp (v := (I 0)) rfl res_nil) rfl) ⟨rfl, rfl⟩ (H.sel' [] rfl rfl)
  ·replace h := bif_f hb10 h
   refine c_skip (q_then (c_seq (rg (sa (I (-1)) rfl (w_end (q_then (c_ret (q_then_r ?_))))))))
   obtain rfl := sj h
   exact fin_ret (v := (I (-1))) (results_ok Tryz.results100 (res_tmp (v := (I (-1))) rfl res_nil) rfl) ⟨rfl, rfl⟩ (H.sel' [] rfl rfl)
 ·replace h := bif_f hb9 h
  refine c_skip (q_then (c_seq (c_seq (rg (sm (B r5) rfl (w_end (q_then ?_)))))))
  refine cd_cond r5 rfl (fun hb11 => ?_) (fun hb11 => ?_)
  ·replace h := bif_t hb11 h
   refine c_seq (rg (sa (I 1) rfl (w_end (q_then (c_ret (q_then_r ?_))))))
   obtain rfl := sj h
   exact fin_ret (v := (I 1)) (results_ok Tryz.results100 (res_tmp (v := (I 1)) rfl res_nil) rfl) ⟨rfl, rfl⟩ (H.sel' [] rfl rfl)
  ·replace h := bif_f hb11 h
   refine c_skip (q_then (c_seq (c_seq (rg (sm (I Bj) rfl (sm (I Ce) rfl (st (v := (B (decide (Bj < Ce)))) (rv_lss (a := Bj) (b := Ce) rfl rfl) (w_end (q_then ?_)))))))))
   refine cd_cond (decide (Bj < Ce)) rfl (fun hb12 => ?_) (fun hb12 => ?_)
   ·replace h := bif_t hb12 h
    refine c_seq (rg (sa (I (-1)) rfl (w_end (q_then (c_ret (q_then_r ?_))))))
    obtain rfl := sj h
    exact fin_ret (v := (I (-1))) (results_ok Tryz.results100 (res_tmp (v := (I (-1))) rfl res_nil) rfl) ⟨rfl, rfl⟩ (H.sel' [] rfl rfl)
   ·replace h := bif_f hb12 h
    refine c_skip (q_then (c_seq (c_seq (rg (sm (I Bj) rfl (sm (I Ce) rfl (st (v := (B (decide (Ce < Bj)))) (rv_gtr (a := Bj) (b := Ce) rfl rfl) (w_end (q_then ?_)))))))))
    refine cd_cond (decide (Ce < Bj)) rfl (fun hb13 => ?_) (fun hb13 => ?_)
    ·replace h := bif_t hb13 h
     refine c_seq (rg (sa (I 1) rfl (w_end (q_then (c_ret (q_then_r ?_))))))
     obtain rfl := sj h
     exact fin_ret (v := (I 1)) (results_ok Tryz.results100 (res_tmp (v := (I 1)) rfl res_nil) rfl) ⟨rfl, rfl⟩ (H.sel' [] rfl rfl)
    ·replace h := bif_f hb13 h
     refine c_skip (q_then (c_seq (rg (sa (I 0) rfl (w_end (q_then (c_ret ?_)))))))
     obtain rfl := sj h
     exact fin_ret (v := (I 0)) (results_ok Tryz.results100 (res_tmp (v := (I 0)) rfl res_nil) rfl) ⟨rfl, rfl⟩ (H.sel' [] rfl rfl)

theorem c_impl_compareHits {Aa : Int × Int} {Ac : Int × Int}  {r : Int} (h : M.impl_compareHits Aa Ac = some r) :
    Cal2 Tryz.prog 72 [(.agg #[(I Aa.1), (I Aa.2)]), (.agg #[(I Ac.1), (I Ac.2)])] [] (fun n0 v L => v = (I r) ∧ L = []) := by
 refine cal2 (n := 17) Tryz.func72 rfl rfl rfl rfl ?_
 intro S0 σ0 n0 hn0 H
 unfold M.impl_compareHits at h
 refine c_seq (rg (st_ex (ex_box (cs := [(I Aa.1), (I Aa.2)]) H hn0 rfl rfl) wn ?_))
 rintro _ σ2 ⟨b1, rfl, H, -⟩
 refine st_ex (ex_box (cs := [(I Ac.1), (I Ac.2)]) H hn0 rfl rfl) wn ?_
 rintro _ σ4 ⟨b3, rfl, H, -⟩
 refine sa (I 0) rfl (w_end (q_then (c_seq ?_)))
 have hc5 := H.cell (u := (I Aa.2)) (o' := 1) 1 1 rfl rfl rfl
 have hc6 := H.cell (u := (I Ac.2)) (o' := 1) 0 1 rfl rfl rfl
 revert h; refine br fun r7 hx8 h => ?_
 have hc9 := c_cmp_Compare_int hx8
 have hc10 := H.cell (u := (I Aa.1)) (o' := 0) 1 0 rfl rfl rfl
 have hc11 := H.cell (u := (I Ac.1)) (o' := 0) 0 0 rfl rfl rfl
 have Hs := H
 refine rg2 (σ := σ4) (Nm := Unit) 9 [4] [[false], [true]] [[(0, 0)], [(0, 0)], [(0, 0)], [(0, 0)], [(0, 1)], [(0, 0), (1, 1)], [(0, 0), (1, 1)], [(0, 0), (1, 1)], [(0, 0), (1, 1)]] 1 [fun _ => fun σm => Hp S0 σ0 σm [Ch.bx n0 b3 0 [(I Ac.1), (I Ac.2)] [] [], Ch.bx n0 b1 0 [(I Aa.1), (I Aa.2)] [] []] ∧ Md (cov []) σ4 σm, fun _ => fun σm => Hp S0 σ0 σm [Ch.bx n0 b3 0 [(I Ac.1), (I Ac.2)] [] [], Ch.bx n0 b1 0 [(I Aa.1), (I Aa.2)] [] []] ∧ Md (cov []) σ4 σm] [fun _ => (pt b1 1), fun _ => (I Aa.2), fun _ => (pt b3 1), fun _ => (I Ac.2), fun _ => (I r7), fun _ => (pt b1 0), fun _ => (I Aa.1), fun _ => (pt b3 0), fun _ => (I Ac.1)] () (by kernel_rfl) (by kernel_rfl) ?_ ?_ ?_
 ·intro σm m0
  exact ⟨H.grow (m0.mono fun _ h => h.elim), m0⟩
 ·refine ac rfl (by
    intro k _nm ρ σm hJ hoff hdep
    have e2 := look_off (N := 17) (hoff 2 rfl) rfl
    exact dp_v (v := (pt b1 1)) wn (rv_fieldAddr (off := 1) (ft := 3) Tryz.underlying38 rfl ti3 rfl e2) rfl hJ) ?_
  refine all_cons (by
    refine ⟨?_, ?_⟩
    ·intro _nm ρ σm hJ hoff hdep
     have e5 := hdep 0 rfl rfl 5 rfl
     obtain ⟨H, m⟩ := id hJ
     have hc5 := H.cell (u := (I Aa.2)) (o' := 1) 1 1 rfl rfl rfl
     exact dp_v (v := (I Aa.2)) wn (rv_load1 Tryz.underlying3 rfl e5 hc5) rfl hJ
    trivial) ?_
  refine ac rfl (by
    intro k _nm ρ σm hJ hoff hdep
    have e3 := look_off (N := 17) (hoff 3 rfl) rfl
    exact dp_v (v := (pt b3 1)) wn (rv_fieldAddr (off := 1) (ft := 3) Tryz.underlying38 rfl ti3 rfl e3) rfl hJ) ?_
  refine all_cons (by
    refine ⟨?_, ?_⟩
    ·intro _nm ρ σm hJ hoff hdep
     have e7 := hdep 2 rfl rfl 7 rfl
     obtain ⟨H, m⟩ := id hJ
     have hc6 := H.cell (u := (I Ac.2)) (o' := 1) 0 1 rfl rfl rfl
     exact dp_v (v := (I Ac.2)) wn (rv_load1 Tryz.underlying3 rfl e7 hc6) rfl hJ
    trivial) ?_
  refine all_cons (by
    refine ⟨?_, ?_⟩
    ·intro _nm ρ σm hJ hoff hdep
     have e6 : look 17 ρ 6 = (I Aa.2) := hdep 1 rfl rfl 6 rfl
     have e8 : look 17 ρ 8 = (I Ac.2) := hdep 3 rfl rfl 8 rfl
     obtain ⟨H, m⟩ := id hJ
     refine dp_cx wn (cx_call hc9 (ent_f hc9.fn (by show [look 17 ρ 6, look 17 ρ 8] = _; rw [e6, e8])) hn0 (H.sel' [0, 1] rfl rfl : Hp S0 σ0 _ ([] ++ _))) ?_
     rintro _ σq ⟨_, ⟨rfl, rfl⟩, H2, m2⟩
     exact ⟨_, (), rfl, rfl, ⟨H2.sel' [0, 1] rfl rfl, m.comp0 m2⟩, stab [0, 1, 2, 3, 5, 6, 7, 8] (by kernel_rfl) ⟨rfl, rfl, rfl, rfl, rfl, rfl, rfl, rfl, trivial⟩⟩
    trivial) ?_
  refine ac rfl (by
    intro k _nm ρ σm hJ hoff hdep
    have e2 := look_off (N := 17) (hoff 2 rfl) rfl
    exact dp_v (v := (pt b1 0)) wn (rv_fieldAddr (off := 0) (ft := 3) Tryz.underlying38 rfl ti3 rfl e2) rfl hJ) ?_
  refine all_cons (by
    refine ⟨?_, ?_⟩
    ·intro _nm ρ σm hJ hoff hdep
     have e10 := hdep 5 rfl rfl 10 rfl
     obtain ⟨H, m⟩ := id hJ
     have hc10 := H.cell (u := (I Aa.1)) (o' := 0) 1 0 rfl rfl rfl
     exact dp_v (v := (I Aa.1)) wn (rv_load1 Tryz.underlying3 rfl e10 hc10) rfl hJ
    refine ⟨?_, ?_⟩
    ·intro _nm ρ σm hJ hoff hdep
     have e10 := hdep 5 rfl rfl 10 rfl
     obtain ⟨H, m⟩ := id hJ
     have hc10 := H.cell (u := (I Aa.1)) (o' := 0) 1 0 rfl rfl rfl
     exact dp_v (v := (I Aa.1)) wn (rv_load1 Tryz.underlying3 rfl e10 hc10) rfl hJ
    trivial) ?_
  refine ac rfl (by
    intro k _nm ρ σm hJ hoff hdep
    have e3 := look_off (N := 17) (hoff 3 rfl) rfl
    exact dp_v (v := (pt b3 0)) wn (rv_fieldAddr (off := 0) (ft := 3) Tryz.underlying38 rfl ti3 rfl e3) rfl hJ) ?_
  refine all_cons (by
    refine ⟨?_, ?_⟩
    ·intro _nm ρ σm hJ hoff hdep
     have e12 := hdep 7 rfl rfl 12 rfl
     obtain ⟨H, m⟩ := id hJ
     have hc11 := H.cell (u := (I Ac.1)) (o' := 0) 0 0 rfl rfl rfl
     exact dp_v (v := (I Ac.1)) wn (rv_load1 Tryz.underlying3 rfl e12 hc11) rfl hJ
    refine ⟨?_, ?_⟩
    ·intro _nm ρ σm hJ hoff hdep
     have e12 := hdep 7 rfl rfl 12 rfl
     obtain ⟨H, m⟩ := id hJ
     have hc11 := H.cell (u := (I Ac.1)) (o' := 0) 0 0 rfl rfl rfl
     exact dp_v (v := (I Ac.1)) wn (rv_load1 Tryz.underlying3 rfl e12 hc11) rfl hJ
    trivial) ?_
  exact all_nil
 ·intro _nm ρ σ12 hJ hoff hrel
  have e9 := hrel 4 rfl 9 rfl
  have e11 := hrel 6 rfl 11 rfl
  have e13 := hrel 8 rfl 13 rfl
  obtain ⟨H, -⟩ := (show Hp S0 σ0 σ12 [Ch.bx n0 b3 0 [(I Ac.1), (I Ac.2)] [] [], Ch.bx n0 b1 0 [(I Aa.1), (I Aa.2)] [] []] ∧ Md (cov []) σ4 σ12 from hJ)
  clear hJ Hs
  rw [fr_lookL (L := [(9, (I r7)), (11, (I Aa.1)), (13, (I Ac.1))]) ⟨e9, e11, e13, trivial⟩]
  clear hoff hrel e9 e11 e13
  revert h; refine br fun r13 hx14 h => ?_
  have hc15 := c_cmp_Compare_int hx14
  refine st_call (cx_call hc15 (ent_f hc15.fn rfl) hn0 (H.sel' [0, 1] rfl rfl : Hp S0 σ0 _ ([] ++ _))) wn ?_
  rintro _ σ16 ⟨_, ⟨rfl, rfl⟩, H, -⟩
  replace H : Hp _ _ _ [_, _] := H
  refine st_ex (ex_buildSlice (el := n0) (xs := ([r7, r13] : List Int)) (ps := [(0, (I r7)), (1, (I r13))]) (cs := [(I r7), (I r13)]) H hn0 Tryz.underlying24 ti3 rfl rfl (by kernel_rfl) (.cons (c := [(I r7)]) rfl (.cons (c := [(I r13)]) rfl (.nil))) rfl) wn ?_
  rintro _ σ18 ⟨b17, rfl, H, -⟩
  obtain ⟨σ19, hw20, H, -⟩ := H.pub 0 rfl (Nat.le_refl _)
  rw [← hw20]; clear hw20
  replace H := H.roLow 0 0 rfl (Nat.zero_le _)
  revert h; refine br fun r21 hx22 h => ?_
  have hc23 := c_cmp_Or_int (Cc := (some ⟨b17, 0, none⟩)) (Cd := 2) hx22
  refine st_call (cx_call hc23 (ent_f hc23.fn rfl) hn0 (H.sel' [0, 0, 1, 2, 3] rfl rfl : Hp S0 σ0 _ ([_] ++ _))) wn ?_
  rintro _ σ24 ⟨_, ⟨rfl, rfl⟩, H, -⟩
  replace H : Hp _ _ _ [_, _, _, _] := H
  refine sa (I r21) rfl (w_end (q_then (c_ret ?_)))
  obtain rfl := sj h
  exact fin_ret (v := (I r21)) (results_ok Tryz.results72 (res_tmp (v := (I r21)) rfl res_nil) rfl) ⟨rfl, rfl⟩ (H.sel' [] rfl rfl)

theorem it_slices_AppendSeq_impl_Hit_impl_Hit__slices_Values_impl_hitHeap_impl_Hit_1 {b o c l : Nat} {a : Option Addr} {xs : List (Int × Int)} {J : Nat → St → Prop} (hst : ∀ {i σ σ'}, J i σ → Md (fun _ => False) σ σ' → J i σ')
    (hbx : ∀ {i σ}, J i σ → HCell σ.w.heap b o = some (Sl a xs c) ∧ Rd 0 σ (Sl a xs c) xs) (hn : xs.length ≤ 2147483648)
    (hy : ∀ i, (h : i < xs.length) → ∀ σ, J i σ → YieldAt Fence.wide 0 Tryz.prog l [(.agg #[(I (xs[i]).1), (I (xs[i]).2)])].toArray σ.w fun e W' => e = .returned (.bool true) ∧ ∃ σ', W' = σ'.w ∧ J (i + 1) σ')
    (σ : St) (h0 : J 0 σ) : CallsIn Fence.wide 0 Tryz.prog 98 [.func (.yield l) #[] #[], (pt b o)].toArray σ.w fun e W' => (∃ v, e = .returned v) ∧ ∃ σ', W' = σ'.w ∧ J xs.length σ' := by
  refine enterI (n := 16) Tryz.func98 rfl rfl rfl ?_
  refine wpIn_seq ?_
  obtain ⟨hc, -⟩ := hbx h0
  refine rgI ?_
  refine stI nofun (v := (Sl a xs c)) (rv_load1 Tryz.underlying51 rfl rfl hc) ?_
  refine stI nofun (v := (I (xs.length : Int))) (rv_len Tryz.underlying51 rfl) ?_
  refine stI nofun (v := (I 0)) (rv_move rfl) ?_
  refine endI ?_
  refine q_then (wpIn_block ?_)
  refine wpIn_loop_ghost (fun k a' w' => ∃ i ρ σ, i + k = xs.length ∧ a' = fr 16 (updL ρ [(0, .func (.yield l) #[] #[]), (1, pt b o), (5, Sl a xs c), (6, I (xs.length : Int)), (7, I (i : Int))]) ∧ w' = σ.w ∧ J i σ) xs.length ⟨0, _, σ, by omega, fr_join ⟨rfl, rfl, rfl, rfl, rfl, trivial⟩, rfl, h0⟩ ?_
  clear hc h0
  rintro k _ _ ⟨i, ρ, σ, hik, rfl, rfl, hJ⟩
  refine wpIn_seq ?_
  refine rgI ?_
  refine stI nofun (v := (B (decide ((i : Int) < (xs.length : Int))))) (rv_lss (a := (i : Int)) (b := (xs.length : Int)) rfl rfl) ?_
  refine endI ?_
  refine q_then (wpIn_seq ?_)
  refine cdI_cond (decide ((i : Int) < (xs.length : Int))) rfl (fun hb => ?_) (fun hb => ?_)
  · have hlt : i < xs.length := by have := of_decide_eq_true hb; omega
    refine wpIn_skip ?_
    refine q_then (wpIn_seq ?_)
    refine wpIn_block ?_
    refine wpIn_seq ?_
    refine rgI ?_
    have hg : gidx xs (i : Int) = some xs[i] := gidx_at hlt
    obtain ⟨-, hR⟩ := hbx hJ
    obtain ⟨bx, ox, hi, hat⟩ := hR.ix hg
    obtain ⟨_, ⟨_, _, rfl, rfl, rfl⟩, hl, hcx⟩ := hat.cells
    refine stI nofun (v := (pt bx ox)) (rv_ix Tryz.underlying51 ti38 rfl rfl hi) ?_
    refine stI nofun (v := (.agg #[(I (xs[i]).1), (I (xs[i]).2)])) (rv_load (cs := [(I (xs[i]).1), (I (xs[i]).2)]) Tryz.underlying38 rfl ti38 rfl hl hcx) ?_
    have H : Hp (cov []) σ σ [] := Hp.begin trivial trivial
    refine stI_ex nofun (ex_alloc (lo := 0) H (Nat.zero_le _) ti38 rfl) ?_
    rintro _ σ2 ⟨b4, rfl, H, -⟩
    refine stI_exS nofun (ex_store_box (vs := [(I (xs[i]).1), (I (xs[i]).2)]) (k := 0) H (i := 0) rfl ti38 rfl rfl rfl rfl rfl (Nat.le_of_ble_eq_true rfl) (by simp [plain]) rfl) ?_
    rintro σ3 ⟨H, -⟩
    refine endI ?_
    refine q_then (wpIn_seq ?_)
    refine rgI ?_
    refine stI nofun (v := (.func (.yield l) #[] #[])) (rv_move rfl) ?_
    have hc4 := H.cells 0 rfl
    refine stI nofun (v := (.agg #[(I (xs[i]).1), (I (xs[i]).2)])) (rv_load (cs := [(I (xs[i]).1), (I (xs[i]).2)]) Tryz.underlying38 rfl ti38 rfl rfl hc4) ?_
    refine stI_yield (args := [(.agg #[(I (xs[i]).1), (I (xs[i]).2)])]) rfl rfl (hy i hlt σ3 (hst hJ H.md)) ?_
    rintro e w' ⟨rfl, σ4, rfl, hJ4⟩
    refine ⟨_, rfl, ?_⟩
    refine stI nofun (v := (B (!true))) (rv_not rfl) ?_
    refine endI ?_
    refine q_then ?_
    refine cdI_cond false rfl (fun hb => by cases hb) (fun _ => ?_)
    refine wpIn_skip ?_
    refine q_blk (q_then (rgI ?_))
    refine stI nofun (v := (I (w64 ((i : Int) + 1)))) (rv_add (a := (i : Int)) (b := 1) rfl rfl) ?_
    refine stI nofun (v := (I (w64 ((i : Int) + 1)))) (rv_move rfl) ?_
    refine endI ?_
    have e1 : w64 ((i : Int) + 1) = ((i + 1 : Nat) : Int) := w64_id (by omega) (by omega)
    rw [e1]
    refine q_then ?_
    exact ⟨k - 1, by omega, i + 1, _, σ4, by omega, fr_join ⟨rfl, rfl, rfl, rfl, rfl, trivial⟩, rfl, hJ4⟩
  · have hlt : ¬ i < xs.length := by have := of_decide_eq_false hb; omega
    have : i = xs.length := by omega
    subst this
    refine wpIn_exit ?_
    refine q_then_x (q_then_x (q_blk_hit ?_))
    exact fin_plain' (v := .tuple #[]) (results_ok Tryz.results98 res_nil rfl) ⟨⟨_, rfl⟩, σ, rfl, hJ⟩
theorem c_slices_AppendSeq_impl_Hit_impl_Hit__slices_Values_impl_hitHeap_impl_Hit_1 {Cf : List (Int × Int)} {Cg : Option Addr} {Ci : Nat} {Cj Ck Cl : Nat} {Cm Cn : List Value} {r : List (Int × Int)} (h : M.slices_AppendSeq_impl_Hit_impl_Hit__slices_Values_impl_hitHeap_impl_Hit_1 Cf = some r) :
    Cal2 Tryz.prog 120 [.slice none 0 0, (.func (.func 98) #[] #[(pt Ck Cl)])] [Ch.bx Cj Ck Cl [(Sl Cg Cf Ci)] Cm Cn, Ch.ro 0 (Sl Cg Cf Ci) Cf] (fun n0 v L => ∃ (az1 : Option Addr), ∃ (cz2 : Nat), v = (Sl az1 r cz2) ∧ L = [Ch.own n0 n0 (Sl az1 r cz2) r, Ch.bx Cj Ck Cl [(Sl Cg Cf Ci)] Cm Cn]) := by
  obtain ⟨hn, rfl⟩ := coll_some (show M.coll Cf = some r from h)
  refine ⟨⟨_, _, Tryz.func120, rfl, rfl⟩, fun σ0 n0 hn0 H => ?_⟩
  refine callsIn_wide.1 (enterI (n := 13) Tryz.func120 rfl rfl rfl ?_)
  refine wpIn_seq ?_
  refine rgI ?_
  refine stI_ex nofun (ex_box (cs := [.slice none 0 0]) H hn0 rfl rfl) ?_
  rintro _ σ1 ⟨b1, rfl, H, -⟩
  refine stI nofun (v := (.slice none 0 0)) (rv_assign rfl) ?_
  refine endI ?_
  refine q_then (wpIn_seq ?_)
  refine wpIn_seq ?_
  refine rgI ?_
  refine stI nofun (v := (.func (.func 98) #[] #[(pt Ck Cl)])) (rv_move rfl) ?_
  refine endI ?_
  refine q_then (wpIn_block ?_)
  replace H := H.nilOwn (Int × Int) n0 n0
  refine wp_rangeF (gf := 98) (lb := #[(pt Ck Cl)]) (N := r.length) (encs := fun i => [(.agg #[(I (r.getD i (0, 0)).1), (I (r.getD i (0, 0)).2)])].toArray) (by rw [fr_eval]; rfl) (eg_of ⟨_, _, Tryz.func98, rfl, rfl⟩) (fun _ _ => rfl)
    (fun i L => ∃ a' c', L = [Ch.own n0 n0 (Sl a' (r.take i) c') (r.take i), Ch.bx n0 b1 0 [(Sl a' (r.take i) c')] [] [], Ch.bx Cj Ck Cl [(Sl Cg r Ci)] Cm Cn, Ch.ro 0 (Sl Cg r Ci) r]) ⟨none, 0, rfl⟩ H ?_ ?_ ?_
  · intro l J hst hJ hy σ h0
    refine it_slices_AppendSeq_impl_Hit_impl_Hit__slices_Values_impl_hitHeap_impl_Hit_1 (J := J) (a := Cg) (c := Ci) hst (fun {i σ} h => ?_) hn (fun i hi σ h => ?_) σ h0
    · obtain ⟨L, R, ⟨a', c', rfl⟩, H⟩ := hJ h
      have H2 := H.drop R
      exact ⟨H2.cells 2 rfl 0 (by simp), (H2.ro 3 rfl).rd⟩
    · have := hy i hi σ h
      simpa [List.getD, hi] using this
  · rintro l D i rc rc' hi σ _ ⟨a', c', rfl⟩ H
    have hgd : r.getD i (0, 0) = r[i] := by simp [List.getD, hi]
    simp only [hgd]
    rw [round_fr]
    refine rgI ?_
    refine stI_ex nofun (ex_alloc (lo := n0) H hn0 ti38 rfl) ?_
    rintro _ σ2 ⟨b5, rfl, H, -⟩
    refine stI_exS nofun (ex_store_box (vs := [(I (r[i]).1), (I (r[i]).2)]) (cs' := [(I (r[i]).1), (I (r[i]).2)]) (k := 0) H (i := 0) rfl ti38 rfl rfl rfl rfl rfl (Nat.le_of_ble_eq_true rfl) (by simp [plain]) rfl) ?_
    rintro σ3 ⟨H, -⟩
    refine endI ?_
    refine q_then ?_
    refine ⟨σ3, _, rfl, H.sel' [1, 2, 0, 3, 4, 5, 6] rfl rfl, ?_⟩
    clear H
    intro σ4 H
    refine wpIn_block ?_
    refine rgI ?_
    have hc1 := H.cells 4 rfl
    refine stI nofun (v := (Sl a' (r.take i) c')) (rv_load1 Tryz.underlying27 rfl rfl (hc1 0 (by simp))) ?_
    have hc5 := H.cells 2 rfl
    refine stI nofun (v := (.agg #[(I (r[i]).1), (I (r[i]).2)])) (rv_load (cs := [(I (r[i]).1), (I (r[i]).2)]) Tryz.underlying38 rfl ti38 rfl rfl hc5) ?_
    refine stI_ex nofun (ex_buildSlice (lo := n0) (el := n0) (xs := ([((r[i]).1, (r[i]).2)] : List (Int × Int))) (ps := [(0, (.agg #[(I (r[i]).1), (I (r[i]).2)]))]) (cs := [(I (r[i]).1), (I (r[i]).2)]) H hn0 Tryz.underlying27 ti38 rfl rfl (by kernel_rfl) (.cons (c := [(I (r[i]).1), (I (r[i]).2)]) ⟨_, _, rfl, rfl, rfl⟩ .nil) rfl) ?_
    rintro _ σ5 ⟨b10, rfl, H, -⟩
    refine stI_ex nofun (ex_append H (i := 4) rfl Tryz.underlying27 Tryz.underlying27 ti38 rfl rfl (by decide) (H.own 0 rfl).rd (take_gapp hi hn) hn0 rfl rfl) ?_
    rintro _ σ6 ⟨a2, c2, rfl, H, -⟩
    refine stI_exS nofun (ex_store_box (vs := [(Sl a2 (r.take (i + 1)) c2)]) (cs' := [(Sl a2 (r.take (i + 1)) c2)]) (k := 0) H (i := 5) rfl ti27 rfl rfl rfl rfl rfl (Nat.le_of_ble_eq_true rfl) (by simp [plain, Sl]) rfl) ?_
    rintro σ7 ⟨H, -⟩
    refine endI ?_
    refine q_blk ?_
    exact ⟨rfl, σ7, _, rfl, ⟨a2, c2, rfl⟩, H.sel' [3, 4, 1, 0, 6, 7] rfl rfl⟩
  · rintro D σ _ ⟨a', c', rfl⟩ H
    rw [List.take_length] at H
    refine q_blk (q_then (wpIn_seq ?_))
    refine rgD (ds := [{ target := .collected D, args := #[] }]) ?_
    have hc1 := H.cells 2 rfl
    refine stD nofun (v := (Sl a' r c')) (rv_load1 Tryz.underlying27 rfl rfl (hc1 0 (by simp))) ?_
    refine stD nofun (v := (Sl a' r c')) (rv_assign rfl) ?_
    refine endD ?_
    refine q_then (wpIn_ret ?_)
    exact fin_mark (v := Sl a' r c') H (results_ok Tryz.results120 (res_tmp (v := Sl a' r c') rfl res_nil) rfl) ⟨_, _, _, rfl, rfl, ⟨a', c', rfl, rfl⟩, (H.putDf _).sel' [0, 2] rfl rfl⟩

theorem c_slices_Collect_impl_Hit__slices_Values_impl_hitHeap_impl_Hit_1 {Cp : List (Int × Int)} {Cq : Option Addr} {Cr : Nat} {Cs Ct Cu : Nat} {Cv Cw : List Value} {r : (List (Int × Int))} (h : M.slices_Collect_impl_Hit__slices_Values_impl_hitHeap_impl_Hit_1 Cp = some r) :
    Cal2 Tryz.prog 96 [(.func (.func 98) #[] #[(pt Ct Cu)])] [Ch.bx Cs Ct Cu [(Sl Cq Cp Cr)] Cv Cw, Ch.ro 0 (Sl Cq Cp Cr) Cp] (fun n0 v L => ∃ (az1 : Option Addr), ∃ (cz2 : Nat), v = (Sl az1 r cz2) ∧ L = [Ch.own n0 n0 (Sl az1 r cz2) r, Ch.bx Cs Ct Cu [(Sl Cq Cp Cr)] Cv Cw]) := by
 refine cal2 (n := 5) Tryz.func96 rfl rfl rfl rfl ?_
 intro S0 σ0 n0 hn0 H
 unfold M.slices_Collect_impl_Hit__slices_Values_impl_hitHeap_impl_Hit_1 at h
 refine c_seq (rg (sa (.slice none 0 0) rfl (w_end (q_then (c_seq (rg (sm (.func (.func 98) #[] #[(pt Ct Cu)]) rfl ?_)))))))
 revert h; refine br fun r1 hx2 h => ?_
 have hc3 := c_slices_AppendSeq_impl_Hit_impl_Hit__slices_Values_impl_hitHeap_impl_Hit_1 (Cj := Cs) (Ck := Ct) (Cl := Cu) (Cm := Cv) (Cn := Cw) (Cg := Cq) (Ci := Cr) hx2
 refine st_call (cx_call hc3 (ent_f hc3.fn rfl) hn0 (H.sel' [0, 1, 1] rfl rfl : Hp S0 σ0 _ ([_, _] ++ _))) wn ?_
 rintro _ σ6 ⟨_, ⟨a4, c5, rfl, rfl⟩, H, -⟩
 replace H : Hp _ _ _ [_, _, _] := H
 refine sa (Sl a4 r1 c5) rfl (w_end (q_then (c_ret ?_)))
 obtain rfl := sj h
 exact fin_ret (v := (Sl a4 r1 c5)) (results_ok Tryz.results96 (res_tmp (v := (Sl a4 r1 c5)) rfl res_nil) rfl) ⟨a4, c5, rfl, rfl⟩ (H.sel' [0, 1] rfl rfl)

theorem c_slices_insertionSortCmpFunc_impl_Hit__impl_compareHits {Cy : List (Int × Int)} {Cz : Int} {Da : Int} {Db : Option Addr} {Dc : Nat} {r : (List (Int × Int))} (h : M.slices_insertionSortCmpFunc_impl_Hit__impl_compareHits Cy Cz Da = some r) :
    Cal2 Tryz.prog 138 [(Sl Db Cy Dc), (I Cz), (I Da), (.func (.func 72) #[] #[])] [Ch.own 0 0 (Sl Db Cy Dc) Cy] (fun n0 v L => v = (.tuple #[]) ∧ L = [Ch.own 0 0 (Sl Db r Dc) r] ∧ r.length = Cy.length) := by
 refine cal2 (n := 53) Tryz.func138 rfl rfl rfl rfl ?_
 intro S0 σ0 n0 hn0 H
 unfold M.slices_insertionSortCmpFunc_impl_Hit__impl_compareHits at h
 refine c_seq (rg (sm (I Cz) rfl (st (v := (I (w64 (Cz + 1)))) (rv_add (a := Cz) (b := 1) rfl rfl) (sa (I (w64 (Cz + 1))) rfl (w_end (q_then ?_))))))
 obtain ⟨o1, hj, h'⟩ := bind_some h
 clear h
 refine c_cut (fun e a w => e = .normal ∧ ∃ (ρ : Nat → Value) (σ : St), a = fr 53 (updL ρ [(0, (Sl Db o1 Dc))]) ∧ w = σ.w ∧ Hp S0 σ0 σ [Ch.own 0 0 (Sl Db o1 Dc) o1] ∧ o1.length = Cy.length) ?_ ?_
 ·clear h'
  rename _ = some o1 => h
  refine c_blk (wp_loopM _ h (fun s2 a w => ∃ (ρ : Nat → Value) (σ : St), a = fr 53 (updL ρ [(0, (Sl Db s2.1 Dc)), (1, (I Cz)), (2, (I Da)), (3, (.func (.func 72) #[] #[])), (8, (I s2.2))]) ∧ w = σ.w ∧ Hp S0 σ0 σ [Ch.own 0 0 (Sl Db s2.1 Dc) s2.1] ∧ s2.1.length = Cy.length) ⟨_, σ0, fr_join ⟨rfl, rfl, rfl, rfl, rfl, trivial⟩, rfl, H.sel' [0] rfl rfl, rfl⟩ ?_)
  clear h H
  rintro s2 a w o ⟨ρ, σ3, rfl, rfl, H, hn4⟩ h hres
  refine c_seq (c_seq (rg (sm (I s2.2) rfl (sm (I Da) rfl (st (v := (B (decide (s2.2 < Da)))) (rv_lss (a := s2.2) (b := Da) rfl rfl) (w_end (q_then ?_)))))))
  refine cd_cond (decide (s2.2 < Da)) rfl (fun hb5 => ?_) (fun hb5 => ?_)
  ·replace h := bif_t hb5 h
   refine c_skip (q_then (c_seq (c_blk (c_seq (rg (sm (I s2.2) rfl (sa (I s2.2) rfl (w_end (q_then ?_)))))))))
   obtain ⟨o6, hj, h'⟩ := bind_some h
   clear h
   refine c_cut (fun e a w => e = .normal ∧ ∃ (ρ : Nat → Value) (σ : St), a = fr 53 (updL ρ [(0, (Sl Db o6 Dc)), (1, (I Cz)), (2, (I Da)), (3, (.func (.func 72) #[] #[])), (8, (I s2.2))]) ∧ w = σ.w ∧ Hp S0 σ0 σ [Ch.own 0 0 (Sl Db o6 Dc) o6] ∧ o6.length = s2.1.length) ?_ ?_
   ·clear h'
    rename _ = some o6 => h
    refine c_blk (wp_loopM _ h (fun s7 a w => ∃ (ρ : Nat → Value) (σ : St), a = fr 53 (updL ρ [(0, (Sl Db s7.1 Dc)), (1, (I Cz)), (2, (I Da)), (3, (.func (.func 72) #[] #[])), (8, (I s2.2)), (9, (I s7.2))]) ∧ w = σ.w ∧ Hp S0 σ0 σ [Ch.own 0 0 (Sl Db s7.1 Dc) s7.1] ∧ s7.1.length = s2.1.length) ⟨_, σ3, fr_join ⟨rfl, rfl, rfl, rfl, rfl, rfl, trivial⟩, rfl, H.sel' [0] rfl rfl, rfl⟩ ?_)
    clear h H
    rintro s7 a w o ⟨ρ, σ8, rfl, rfl, H, hn9⟩ h hres
    refine c_seq (c_seq ?_)
    obtain ⟨o10, hj, h'⟩ := bind_some h
    clear h
    refine c_cut (fun e a w => e = .normal ∧ ∃ (ρ : Nat → Value) (σ : St), a = fr 53 (updL ρ [(0, (Sl Db s7.1 Dc)), (1, (I Cz)), (2, (I Da)), (3, (.func (.func 72) #[] #[])), (8, (I s2.2)), (9, (I s7.2)), (34, (B o10))]) ∧ w = σ.w ∧ Hp S0 σ0 σ [Ch.own 0 0 (Sl Db s7.1 Dc) s7.1]) ?_ ?_
    ·clear h'
     rename _ = some o10 => h
     refine rgP (σ := σ8) 14 (by kernel_rfl) (by kernel_rfl) (by kernel_rfl) ?_
     refine sq (v := (I s7.2)) (rv_move rfl) (sq (v := (I Cz)) (rv_move rfl) (sq (v := (B (decide (Cz < s7.2)))) (rv_gtr (a := s7.2) (b := Cz) rfl rfl) (sq (v := (B (decide (Cz < s7.2)))) (rv_move rfl) ?_)))
     rcases Bool.eq_false_or_eq_true (decide (Cz < s7.2)) with hb11 | hb11
     ·replace h := bif_t hb11 h
      refine sq_g (v := (.func (.func 72) #[] #[])) (congrArg some hb11) (rv_move rfl) (sq_g (v := (Sl Db s7.1 Dc)) (congrArg some hb11) (rv_move rfl) (sq_g (v := (I s7.2)) (congrArg some hb11) (rv_move rfl) ?_))
      revert h; refine br fun x12 hx13 h => ?_
      obtain ⟨b15, o16, hi14, -⟩ := (H.own 0 rfl).ix hx13
      refine sq_g (v := (pt b15 o16)) (congrArg some hb11) (rv_ix Tryz.underlying27 ti38 rfl rfl hi14) ?_
      obtain ⟨_, ⟨_, _, rfl, rfl, rfl⟩, hl17, hc18⟩ := ((H.own 0 rfl).at hx13 hi14).cells
      refine sq_g (v := (.agg #[(I x12.1), (I x12.2)])) (congrArg some hb11) (rv_load Tryz.underlying38 rfl ti38 rfl hl17 hc18) (sq_g (v := (Sl Db s7.1 Dc)) (congrArg some hb11) (rv_move rfl) (sq_g (v := (I s7.2)) (congrArg some hb11) (rv_move rfl) (sq_g (v := (I (w64 (s7.2 - 1)))) (congrArg some hb11) (rv_sub (a := s7.2) (b := 1) rfl rfl) ?_)))
      revert h; refine br fun x19 hx20 h => ?_
      obtain ⟨b22, o23, hi21, -⟩ := (H.own 0 rfl).ix hx20
      refine sq_g (v := (pt b22 o23)) (congrArg some hb11) (rv_ix Tryz.underlying27 ti38 rfl rfl hi21) ?_
      obtain ⟨_, ⟨_, _, rfl, rfl, rfl⟩, hl24, hc25⟩ := ((H.own 0 rfl).at hx20 hi21).cells
      refine sq_g (v := (.agg #[(I x19.1), (I x19.2)])) (congrArg some hb11) (rv_load Tryz.underlying38 rfl ti38 rfl hl24 hc25) (sq_end ?_)
      intro σ26 hm27
      replace H := H.grow (hm27.mono fun _ h => h); clear hm27
      revert h; refine br fun r28 hx29 h => ?_
      have hc30 := c_impl_compareHits hx29
      refine st_call (cx_call hc30 (ent_v (cap := []) hc30.fn rfl rfl) hn0 (H.sel' [0] rfl rfl : Hp S0 σ0 _ ([] ++ _))) (wanted_yes rfl (by exact (congrArg some hb11))) ?_
      rintro _ σ31 ⟨_, ⟨rfl, rfl⟩, H, -⟩
      replace H : Hp _ _ _ [_] := H
      refine st_g (v := (B (decide (r28 < 0)))) (congrArg some hb11) (rv_lss (a := r28) (b := 0) rfl rfl) (st (v := (B (decide (r28 < 0)))) (rv_pick_t (congrArg B hb11) rfl) (w_end ?_))
      obtain rfl := sj h
      exact ⟨rfl, _, σ31, fr_join ⟨rfl, rfl, rfl, rfl, rfl, rfl, rfl, trivial⟩, rfl, H.sel' [0] rfl rfl⟩
     ·replace h := bif_f hb11 h
      refine sq_skip (congrArg some hb11) (sq_skip (congrArg some hb11) (sq_skip (congrArg some hb11) (sq_skip (congrArg some hb11) (sq_skip (congrArg some hb11) (sq_skip (congrArg some hb11) (sq_skip (congrArg some hb11) (sq_skip (congrArg some hb11) (sq_skip (congrArg some hb11) (sq_skip (congrArg some hb11) (sq_end ?_))))))))))
      intro σ32 hm33
      replace H := H.grow (hm33.mono fun _ h => h); clear hm33
      refine st_skip (congrArg some hb11) (st_skip (congrArg some hb11) (st (v := (B false)) (rv_pick_f (congrArg B hb11) rfl) (w_end ?_)))
      obtain rfl := sj h
      exact ⟨rfl, _, σ32, fr_join ⟨rfl, rfl, rfl, rfl, rfl, rfl, rfl, trivial⟩, rfl, H.sel' [0] rfl rfl⟩
    ·clear hj
     have h := h'
     clear h' H
     rintro e a w ⟨rfl, ρ, σ34, rfl, rfl, H⟩
     refine q_then ?_
     refine cd_cond o10 rfl (fun hb35 => ?_) (fun hb35 => ?_)
     ·replace h := bif_t hb35 h
      refine c_skip (q_then (c_seq (c_blk ?_)))
      revert h; refine br fun x36 hx37 h => ?_
      obtain ⟨b39, o40, hi38, -⟩ := (H.own 0 rfl).ix hx37
      obtain ⟨_, ⟨_, _, rfl, rfl, rfl⟩, hl41, hc42⟩ := ((H.own 0 rfl).at hx37 hi38).cells
      revert h; refine br fun x43 hx44 h => ?_
      obtain ⟨b46, o47, hi45, -⟩ := (H.own 0 rfl).ix hx44
      obtain ⟨_, ⟨_, _, rfl, rfl, rfl⟩, hl48, hc49⟩ := ((H.own 0 rfl).at hx44 hi45).cells
      revert h; refine br fun x50 hx51 h => ?_
      obtain ⟨b53, o54, hi52, -⟩ := (H.own 0 rfl).ix hx51
      have Hs := H
      refine rg2 (σ := σ34) (Nm := Unit) 16 [15] [[false], [true]] [[(0, 0)], [(0, 0)], [(0, 0), (1, 1)], [(0, 0), (1, 1)], [(0, 0), (1, 1)], [(0, 0)], [(0, 0)], [(0, 0)], [(0, 0)], [(0, 0)], [(0, 0)], [(0, 0)], [(0, 0)], [(0, 0)], [(0, 0)], [(0, 1)]] 1 [fun _ => fun σm => Hp S0 σ0 σm [Ch.own 0 0 (Sl Db s7.1 Dc) s7.1] ∧ Md (cov []) σ34 σm, fun _ => fun σm => Hp S0 σ0 σm [Ch.own 0 0 (Sl Db s7.1 Dc) (s7.1.set s7.2.toNat (x36.1, x36.2))] ∧ Md (fun i => (cov []) i ∨ (fun b => blk (Sl Db s7.1 Dc) = some b) i) σ34 σm] [fun _ => (Sl Db s7.1 Dc), fun _ => (I s7.2), fun _ => (Sl Db s7.1 Dc), fun _ => (I s7.2), fun _ => (I (w64 (s7.2 - 1))), fun _ => (Sl Db s7.1 Dc), fun _ => (I s7.2), fun _ => (I (w64 (s7.2 - 1))), fun _ => (pt b39 o40), fun _ => (.agg #[(I x36.1), (I x36.2)]), fun _ => (Sl Db s7.1 Dc), fun _ => (I s7.2), fun _ => (pt b46 o47), fun _ => (.agg #[(I x43.1), (I x43.2)]), fun _ => (pt b53 o54), fun _ => undef] () (by kernel_rfl) (by kernel_rfl) ?_ ?_ ?_
      ·intro σm m0
       exact ⟨H.grow (m0.mono fun _ h => h.elim), m0⟩
      ·refine ac rfl (by
         intro k _nm ρ σm hJ hoff hdep
         have e0 := look_off (N := 53) (hoff 0 rfl) rfl
         exact dp_v (v := (Sl Db s7.1 Dc)) wn (rv_move e0) rfl hJ) ?_
       refine ac rfl (by
         intro k _nm ρ σm hJ hoff hdep
         have e9 := look_off (N := 53) (hoff 9 rfl) rfl
         exact dp_v (v := (I s7.2)) wn (rv_move e9) rfl hJ) ?_
       refine ac rfl (by
         intro k _nm ρ σm hJ hoff hdep
         have e0 := look_off (N := 53) (hoff 0 rfl) rfl
         exact dp_v (v := (Sl Db s7.1 Dc)) wn (rv_move e0) rfl hJ) ?_
       refine ac rfl (by
         intro k _nm ρ σm hJ hoff hdep
         have e9 := look_off (N := 53) (hoff 9 rfl) rfl
         exact dp_v (v := (I s7.2)) wn (rv_move e9) rfl hJ) ?_
       refine ac rfl (by
         intro k _nm ρ σm hJ hoff hdep
         have e40 := hdep 3 rfl rfl 40 rfl
         exact dp_v (v := (I (w64 (s7.2 - 1)))) wn (rv_sub (a := s7.2) (b := 1) e40 rfl) rfl hJ) ?_
       refine ac rfl (by
         intro k _nm ρ σm hJ hoff hdep
         have e0 := look_off (N := 53) (hoff 0 rfl) rfl
         exact dp_v (v := (Sl Db s7.1 Dc)) wn (rv_move e0) rfl hJ) ?_
       refine ac rfl (by
         intro k _nm ρ σm hJ hoff hdep
         have e9 := look_off (N := 53) (hoff 9 rfl) rfl
         exact dp_v (v := (I s7.2)) wn (rv_move e9) rfl hJ) ?_
       refine ac rfl (by
         intro k _nm ρ σm hJ hoff hdep
         have e43 := hdep 6 rfl rfl 43 rfl
         exact dp_v (v := (I (w64 (s7.2 - 1)))) wn (rv_sub (a := s7.2) (b := 1) e43 rfl) rfl hJ) ?_
       refine ac rfl (by
         intro k _nm ρ σm hJ hoff hdep
         have e42 := hdep 5 rfl rfl 42 rfl
         have e44 := hdep 7 rfl rfl 44 rfl
         exact dp_v (v := (pt b39 o40)) wn (rv_ix Tryz.underlying27 ti38 e42 e44 hi38) rfl hJ) ?_
       refine all_cons (by
         refine ⟨?_, ?_⟩
         ·intro _nm ρ σm hJ hoff hdep
          have e45 := hdep 8 rfl rfl 45 rfl
          obtain ⟨H, m⟩ := id hJ
          obtain ⟨_, ⟨_, _, rfl, rfl, rfl⟩, hl41, hc42⟩ := ((H.own 0 rfl).at hx37 hi38).cells
          exact dp_v (v := (.agg #[(I x36.1), (I x36.2)])) wn (rv_load Tryz.underlying38 rfl ti38 e45 hl41 hc42) rfl hJ
         trivial) ?_
       refine ac rfl (by
         intro k _nm ρ σm hJ hoff hdep
         have e0 := look_off (N := 53) (hoff 0 rfl) rfl
         exact dp_v (v := (Sl Db s7.1 Dc)) wn (rv_move e0) rfl hJ) ?_
       refine ac rfl (by
         intro k _nm ρ σm hJ hoff hdep
         have e9 := look_off (N := 53) (hoff 9 rfl) rfl
         exact dp_v (v := (I s7.2)) wn (rv_move e9) rfl hJ) ?_
       refine ac rfl (by
         intro k _nm ρ σm hJ hoff hdep
         have e47 := hdep 10 rfl rfl 47 rfl
         have e48 := hdep 11 rfl rfl 48 rfl
         exact dp_v (v := (pt b46 o47)) wn (rv_ix Tryz.underlying27 ti38 e47 e48 hi45) rfl hJ) ?_
       refine all_cons (by
         refine ⟨?_, ?_⟩
         ·intro _nm ρ σm hJ hoff hdep
          have e49 := hdep 12 rfl rfl 49 rfl
          obtain ⟨H, m⟩ := id hJ
          obtain ⟨_, ⟨_, _, rfl, rfl, rfl⟩, hl48, hc49⟩ := ((H.own 0 rfl).at hx44 hi45).cells
          exact dp_v (v := (.agg #[(I x43.1), (I x43.2)])) wn (rv_load Tryz.underlying38 rfl ti38 e49 hl48 hc49) rfl hJ
         trivial) ?_
       refine ac rfl (by
         intro k _nm ρ σm hJ hoff hdep
         have e37 := hdep 0 rfl rfl 37 rfl
         have e38 := hdep 1 rfl rfl 38 rfl
         exact dp_v (v := (pt b53 o54)) wn (rv_ix Tryz.underlying27 ti38 e37 e38 hi52) rfl hJ) ?_
       refine all_cons (by
         refine ⟨?_, ?_⟩
         ·intro _nm ρ σm hJ hoff hdep
          have e51 := hdep 14 rfl rfl 51 rfl
          have e46 := hdep 9 rfl rfl 46 rfl
          obtain ⟨H, m⟩ := id hJ
          refine dp_exS wn rfl (ex_store_own (e' := (x36.1, x36.2)) (vs := [(I x36.1), (I x36.2)]) (k := 0) H (i := 0) rfl ti38 hx51 hi52 e51 rfl e46 rfl rfl (Nat.le_of_ble_eq_true rfl) (by simp [plain]) (by rintro _ ⟨_, _, rfl, rfl, rfl⟩; exact ⟨[(I x36.1)], [(I x36.2)], rfl, rfl, rfl⟩)) ?_
          rintro σq ⟨H2, m2⟩
          exact ⟨_, (), rfl, ⟨H2.sel' [0] rfl rfl, m.comp m2⟩, stab [0, 1, 2, 3, 4, 5, 6, 7, 8, 9, 10, 11, 12, 13, 14] (by kernel_rfl) ⟨rfl, rfl, rfl, rfl, rfl, rfl, rfl, rfl, rfl, rfl, rfl, rfl, rfl, rfl, rfl, trivial⟩⟩
         trivial) ?_
       exact all_nil
      ·intro _nm ρ σ55 hJ hoff hrel
       have e0 := look_off (N := 53) (hoff 0 rfl) rfl
       have e1 := look_off (N := 53) (hoff 1 rfl) rfl
       have e2 := look_off (N := 53) (hoff 2 rfl) rfl
       have e3 := look_off (N := 53) (hoff 3 rfl) rfl
       have e8 := look_off (N := 53) (hoff 8 rfl) rfl
       have e9 := look_off (N := 53) (hoff 9 rfl) rfl
       have e39 := hrel 2 rfl 39 rfl
       have e41 := hrel 4 rfl 41 rfl
       have e50 := hrel 13 rfl 50 rfl
       obtain ⟨H, -⟩ := (show Hp S0 σ0 σ55 [Ch.own 0 0 (Sl Db s7.1 Dc) (s7.1.set s7.2.toNat (x36.1, x36.2))] ∧ Md (fun i => (cov []) i ∨ (fun b => blk (Sl Db s7.1 Dc) = some b) i) σ34 σ55 from hJ)
       clear hJ Hs
       rw [fr_lookL (L := [(0, (Sl Db s7.1 Dc)), (1, (I Cz)), (2, (I Da)), (3, (.func (.func 72) #[] #[])), (8, (I s2.2)), (9, (I s7.2)), (39, (Sl Db s7.1 Dc)), (41, (I (w64 (s7.2 - 1)))), (50, (.agg #[(I x43.1), (I x43.2)]))]) ⟨e0, e1, e2, e3, e8, e9, e39, e41, e50, trivial⟩]
       clear hoff hrel e0 e1 e2 e3 e8 e9 e39 e41 e50
       have hsl : (Sl Db s7.1 Dc) = (Sl Db (s7.1.set s7.2.toNat (x36.1, x36.2)) Dc) := sl_len (by simp)
       rw [hsl]; rw [hsl] at H; clear hsl
       revert h; refine br fun x56 hx57 h => ?_
       obtain ⟨b59, o60, hi58, -⟩ := (H.own 0 rfl).ix hx57
       refine st (v := (pt b59 o60)) (rv_ix Tryz.underlying27 ti38 rfl rfl hi58) ?_
       refine st_exS (ex_store_own (e' := (x43.1, x43.2)) (vs := [(I x43.1), (I x43.2)]) (k := 0) H (i := 0) rfl ti38 hx57 hi58 rfl rfl rfl rfl rfl (Nat.le_of_ble_eq_true rfl) (by simp [plain]) (by rintro _ ⟨_, _, rfl, rfl, rfl⟩; exact ⟨[(I x43.1)], [(I x43.2)], rfl, rfl, rfl⟩)) wn ?_
       rintro σ61 ⟨H, -⟩
       have hsl : (Sl Db (s7.1.set s7.2.toNat (x36.1, x36.2)) Dc) = (Sl Db ((s7.1.set s7.2.toNat (x36.1, x36.2)).set (w64 (s7.2 - 1)).toNat (x43.1, x43.2)) Dc) := sl_len List.length_set.symm
       rw [hsl]; rw [hsl] at H; clear hsl
       refine w_end (q_blk (q_then (rg (sm (I s7.2) rfl (st (v := (I (w64 (s7.2 - 1)))) (rv_sub (a := s7.2) (b := 1) rfl rfl) (sa (I (w64 (s7.2 - 1))) rfl (w_end (q_then ?_))))))))
       obtain rfl := sj h
       exact ⟨_, rfl, _, σ61, fr_join ⟨rfl, rfl, rfl, rfl, rfl, rfl, trivial⟩, rfl, H.sel' [0] rfl rfl, ((List.length_set.trans (List.length_set.trans (hn9.trans hn4))).trans hn4.symm)⟩
     ·replace h := bif_f hb35 h
      refine c_exit (q_then_x (q_then_x (q_blk_hit ?_)))
      obtain rfl := sj h
      obtain rfl := hres _ rfl
      exact ⟨rfl, _, σ34, fr_join ⟨rfl, rfl, rfl, rfl, rfl, trivial⟩, rfl, H.sel' [0] rfl rfl, ((hn9.trans hn4).trans hn4.symm)⟩
   ·clear hj
    have h := h'
    clear h' H
    rintro e a w ⟨rfl, ρ, σ62, rfl, rfl, H, hn63⟩
    refine q_blk (q_then (rg (sm (I s2.2) rfl (st (v := (I (w64 (s2.2 + 1)))) (rv_add (a := s2.2) (b := 1) rfl rfl) (sa (I (w64 (s2.2 + 1))) rfl (w_end (q_then ?_)))))))
    obtain rfl := sj h
    exact ⟨_, rfl, _, σ62, fr_join ⟨rfl, rfl, rfl, rfl, rfl, trivial⟩, rfl, H.sel' [0] rfl rfl, (hn63.trans hn4)⟩
  ·replace h := bif_f hb5 h
   refine c_exit (q_then_x (q_then_x (q_blk_hit ?_)))
   obtain rfl := sj h
   obtain rfl := hres _ rfl
   exact ⟨rfl, _, σ3, fr_join ⟨rfl, trivial⟩, rfl, H.sel' [0] rfl rfl, hn4⟩
 ·clear hj
  have h := h'
  clear h' H
  rintro e a w ⟨rfl, ρ, σ64, rfl, rfl, H, hn65⟩
  obtain rfl := sj h
  exact fin_end (v := (.tuple #[])) (results_ok Tryz.results138 res_nil rfl) ⟨rfl, rfl, hn65⟩ (H.sel' [0] rfl rfl)

theorem c_slices_siftDownCmpFunc_impl_Hit__impl_compareHits {Cy : List (Int × Int)} {Dd : Int} {De : Int} {Dg : Int} {Db : Option Addr} {Dc : Nat} {r : (List (Int × Int))} (h : M.slices_siftDownCmpFunc_impl_Hit__impl_compareHits Cy Dd De Dg = some r) :
    Cal2 Tryz.prog 154 [(Sl Db Cy Dc), (I Dd), (I De), (I Dg), (.func (.func 72) #[] #[])] [Ch.own 0 0 (Sl Db Cy Dc) Cy] (fun n0 v L => v = (.tuple #[]) ∧ L = [Ch.own 0 0 (Sl Db r Dc) r] ∧ r.length = Cy.length) := by
 refine cal2 (n := 82) Tryz.func154 rfl rfl rfl rfl ?_
 intro S0 σ0 n0 hn0 H
 unfold M.slices_siftDownCmpFunc_impl_Hit__impl_compareHits at h
 refine c_seq (rg (sm (I Dd) rfl (sa (I Dd) rfl (w_end (q_then ?_)))))
 obtain ⟨o1, hj, h'⟩ := bind_some h
 clear h
 refine c_cut (fun e a w => (∃ t, o1 = (.inl t) ∧ e = .normal ∧ ∃ (ρ : Nat → Value) (σ : St), a = fr 82 (updL ρ [(0, (Sl Db t Dc))]) ∧ w = σ.w ∧ Hp S0 σ0 σ [Ch.own 0 0 (Sl Db t Dc) t] ∧ t.length = Cy.length) ∨ (∃ t, o1 = (.inr t) ∧ e = .ret ∧ ∃ (ρ : Nat → Value) (σ : St), a = fr 82 (updL ρ [(0, (Sl Db t Dc))]) ∧ w = σ.w ∧ Hp S0 σ0 σ [Ch.own 0 0 (Sl Db t Dc) t] ∧ t.length = Cy.length)) ?_ ?_
 ·clear h'
  rename _ = some o1 => h
  refine c_blk (wp_loopM _ h (fun s2 a w => ∃ (ρ : Nat → Value) (σ : St), a = fr 82 (updL ρ [(0, (Sl Db s2.1 Dc)), (2, (I De)), (3, (I Dg)), (4, (.func (.func 72) #[] #[])), (10, (I s2.2))]) ∧ w = σ.w ∧ Hp S0 σ0 σ [Ch.own 0 0 (Sl Db s2.1 Dc) s2.1] ∧ s2.1.length = Cy.length) ⟨_, σ0, fr_join ⟨rfl, rfl, rfl, rfl, rfl, trivial⟩, rfl, H.sel' [0] rfl rfl, rfl⟩ ?_)
  clear h H
  rintro s2 a w o ⟨ρ, σ3, rfl, rfl, H, hn4⟩ h hres
  refine c_blk (c_seq (rg (sm (I s2.2) rfl (st (v := (I (w64 (2 * s2.2)))) (rv_mul (a := 2) (b := s2.2) rfl rfl) (st (v := (I (w64 ((w64 (2 * s2.2)) + 1)))) (rv_add (a := (w64 (2 * s2.2))) (b := 1) rfl rfl) (sa (I (w64 ((w64 (2 * s2.2)) + 1))) rfl (w_end (q_then (c_seq (c_seq (rg ?_)))))))))))
  refine sm (I (w64 ((w64 (2 * s2.2)) + 1))) rfl (sm (I De) rfl (st (v := (B (decide (De ≤ (w64 ((w64 (2 * s2.2)) + 1)))))) (rv_geq (a := (w64 ((w64 (2 * s2.2)) + 1))) (b := De) rfl rfl) (w_end (q_then ?_))))
  refine cd_cond (decide (De ≤ (w64 ((w64 (2 * s2.2)) + 1)))) rfl (fun hb5 => ?_) (fun hb5 => ?_)
  ·replace h := bif_t hb5 h
   refine c_exit (q_then_x ?_)
   refine q_blk_x (by decide) ?_
   refine q_then_x (q_blk_hit ?_)
   obtain rfl := sj h
   obtain rfl := hres _ rfl
   exact .inl ⟨_, rfl, rfl, _, σ3, fr_join ⟨rfl, trivial⟩, rfl, H.sel' [0] rfl rfl, hn4⟩
  ·replace h := bif_f hb5 h
   refine c_skip (q_then (c_seq (c_seq ?_)))
   obtain ⟨o6, hj, h'⟩ := bind_some h
   clear h
   refine c_cut (fun e a w => e = .normal ∧ ∃ (ρ : Nat → Value) (σ : St), a = fr 82 (updL ρ [(0, (Sl Db s2.1 Dc)), (2, (I De)), (3, (I Dg)), (4, (.func (.func 72) #[] #[])), (10, (I s2.2)), (11, (I (w64 ((w64 (2 * s2.2)) + 1)))), (40, (B o6))]) ∧ w = σ.w ∧ Hp S0 σ0 σ [Ch.own 0 0 (Sl Db s2.1 Dc) s2.1]) ?_ ?_
   ·clear h'
    rename _ = some o6 => h
    refine rgP (σ := σ3) 19 (by kernel_rfl) (by kernel_rfl) (by kernel_rfl) ?_
    refine sq (v := (I (w64 ((w64 (2 * s2.2)) + 1)))) (rv_move rfl) (sq (v := (I (w64 ((w64 ((w64 (2 * s2.2)) + 1)) + 1)))) (rv_add (a := (w64 ((w64 (2 * s2.2)) + 1))) (b := 1) rfl rfl) (sq (v := (I De)) (rv_move rfl) (sq (v := (B (decide ((w64 ((w64 ((w64 (2 * s2.2)) + 1)) + 1)) < De)))) (rv_lss (a := (w64 ((w64 ((w64 (2 * s2.2)) + 1)) + 1))) (b := De) rfl rfl) (sq (v := (B (decide ((w64 ((w64 ((w64 (2 * s2.2)) + 1)) + 1)) < De)))) (rv_move rfl) ?_))))
    rcases Bool.eq_false_or_eq_true (decide ((w64 ((w64 ((w64 (2 * s2.2)) + 1)) + 1)) < De)) with hb7 | hb7
    ·replace h := bif_t hb7 h
     refine sq_g (v := (.func (.func 72) #[] #[])) (congrArg some hb7) (rv_move rfl) (sq_g (v := (Sl Db s2.1 Dc)) (congrArg some hb7) (rv_move rfl) (sq_g (v := (I Dg)) (congrArg some hb7) (rv_move rfl) (sq_g (v := (I (w64 ((w64 (2 * s2.2)) + 1)))) (congrArg some hb7) (rv_move rfl) (sq_g (v := (I (w64 (Dg + (w64 ((w64 (2 * s2.2)) + 1)))))) (congrArg some hb7) (rv_add (a := Dg) (b := (w64 ((w64 (2 * s2.2)) + 1))) rfl rfl) ?_))))
     revert h; refine br fun x8 hx9 h => ?_
     obtain ⟨b11, o12, hi10, -⟩ := (H.own 0 rfl).ix hx9
     refine sq_g (v := (pt b11 o12)) (congrArg some hb7) (rv_ix Tryz.underlying27 ti38 rfl rfl hi10) ?_
     obtain ⟨_, ⟨_, _, rfl, rfl, rfl⟩, hl13, hc14⟩ := ((H.own 0 rfl).at hx9 hi10).cells
     refine sq_g (v := (.agg #[(I x8.1), (I x8.2)])) (congrArg some hb7) (rv_load Tryz.underlying38 rfl ti38 rfl hl13 hc14) (sq_g (v := (Sl Db s2.1 Dc)) (congrArg some hb7) (rv_move rfl) (sq_g (v := (I Dg)) (congrArg some hb7) (rv_move rfl) (sq_g (v := (I (w64 ((w64 (2 * s2.2)) + 1)))) (congrArg some hb7) (rv_move rfl) (sq_g (v := (I (w64 (Dg + (w64 ((w64 (2 * s2.2)) + 1)))))) (congrArg some hb7) (rv_add (a := Dg) (b := (w64 ((w64 (2 * s2.2)) + 1))) rfl rfl) (sq_g (v := (I (w64 ((w64 (Dg + (w64 ((w64 (2 * s2.2)) + 1)))) + 1)))) (congrArg some hb7) (rv_add (a := (w64 (Dg + (w64 ((w64 (2 * s2.2)) + 1))))) (b := 1) rfl rfl) ?_)))))
     revert h; refine br fun x15 hx16 h => ?_
     obtain ⟨b18, o19, hi17, -⟩ := (H.own 0 rfl).ix hx16
     refine sq_g (v := (pt b18 o19)) (congrArg some hb7) (rv_ix Tryz.underlying27 ti38 rfl rfl hi17) ?_
     obtain ⟨_, ⟨_, _, rfl, rfl, rfl⟩, hl20, hc21⟩ := ((H.own 0 rfl).at hx16 hi17).cells
     refine sq_g (v := (.agg #[(I x15.1), (I x15.2)])) (congrArg some hb7) (rv_load Tryz.underlying38 rfl ti38 rfl hl20 hc21) (sq_end ?_)
     intro σ22 hm23
     replace H := H.grow (hm23.mono fun _ h => h); clear hm23
     revert h; refine br fun r24 hx25 h => ?_
     have hc26 := c_impl_compareHits hx25
     refine st_call (cx_call hc26 (ent_v (cap := []) hc26.fn rfl rfl) hn0 (H.sel' [0] rfl rfl : Hp S0 σ0 _ ([] ++ _))) (wanted_yes rfl (by exact (congrArg some hb7))) ?_
     rintro _ σ27 ⟨_, ⟨rfl, rfl⟩, H, -⟩
     replace H : Hp _ _ _ [_] := H
     refine st_g (v := (B (decide (r24 < 0)))) (congrArg some hb7) (rv_lss (a := r24) (b := 0) rfl rfl) (st (v := (B (decide (r24 < 0)))) (rv_pick_t (congrArg B hb7) rfl) (w_end ?_))
     obtain rfl := sj h
     exact ⟨rfl, _, σ27, fr_join ⟨rfl, rfl, rfl, rfl, rfl, rfl, rfl, trivial⟩, rfl, H.sel' [0] rfl rfl⟩
    ·replace h := bif_f hb7 h
     refine sq_skip (congrArg some hb7) (sq_skip (congrArg some hb7) (sq_skip (congrArg some hb7) (sq_skip (congrArg some hb7) (sq_skip (congrArg some hb7) (sq_skip (congrArg some hb7) (sq_skip (congrArg some hb7) (sq_skip (congrArg some hb7) (sq_skip (congrArg some hb7) (sq_skip (congrArg some hb7) (sq_skip (congrArg some hb7) (sq_skip (congrArg some hb7) ?_)))))))))))
     refine sq_skip (congrArg some hb7) (sq_skip (congrArg some hb7) (sq_end ?_))
     intro σ28 hm29
     replace H := H.grow (hm29.mono fun _ h => h); clear hm29
     refine st_skip (congrArg some hb7) (st_skip (congrArg some hb7) (st (v := (B false)) (rv_pick_f (congrArg B hb7) rfl) (w_end ?_)))
     obtain rfl := sj h
     exact ⟨rfl, _, σ28, fr_join ⟨rfl, rfl, rfl, rfl, rfl, rfl, rfl, trivial⟩, rfl, H.sel' [0] rfl rfl⟩
   ·clear hj
    have h := h'
    clear h' H
    rintro e a w ⟨rfl, ρ, σ30, rfl, rfl, H⟩
    refine q_then ?_
    obtain ⟨o31, hj, h'⟩ := bind_some h
    clear h
    refine c_cut (fun e a w => e = .normal ∧ ∃ (ρ : Nat → Value) (σ : St), a = fr 82 (updL ρ [(0, (Sl Db s2.1 Dc)), (2, (I De)), (3, (I Dg)), (4, (.func (.func 72) #[] #[])), (10, (I s2.2)), (11, (I o31))]) ∧ w = σ.w ∧ Hp S0 σ0 σ [Ch.own 0 0 (Sl Db s2.1 Dc) s2.1]) ?_ ?_
    ·clear h'
     rename _ = some o31 => h
     refine cd_cond o6 rfl (fun hb32 => ?_) (fun hb32 => ?_)
     ·replace h := bif_t hb32 h
      refine rg (sm (I (w64 ((w64 (2 * s2.2)) + 1))) rfl (st (v := (I (w64 ((w64 ((w64 (2 * s2.2)) + 1)) + 1)))) (rv_add (a := (w64 ((w64 (2 * s2.2)) + 1))) (b := 1) rfl rfl) (sa (I (w64 ((w64 ((w64 (2 * s2.2)) + 1)) + 1))) rfl (w_end ?_))))
      obtain rfl := sj h
      exact ⟨rfl, _, σ30, fr_join ⟨rfl, rfl, rfl, rfl, rfl, rfl, trivial⟩, rfl, H.sel' [0] rfl rfl⟩
     ·replace h := bif_f hb32 h
      refine c_skip ?_
      obtain rfl := sj h
      exact ⟨rfl, _, σ30, fr_join ⟨rfl, rfl, rfl, rfl, rfl, rfl, trivial⟩, rfl, H.sel' [0] rfl rfl⟩
    ·clear hj
     have h := h'
     clear h' H
     rintro e a w ⟨rfl, ρ, σ33, rfl, rfl, H⟩
     refine q_then (c_seq (c_seq ?_))
     refine rgP (σ := σ33) 13 (by kernel_rfl) (by kernel_rfl) (by kernel_rfl) ?_
     refine sq (v := (.func (.func 72) #[] #[])) (rv_move rfl) (sq (v := (Sl Db s2.1 Dc)) (rv_move rfl) (sq (v := (I Dg)) (rv_move rfl) (sq (v := (I s2.2)) (rv_move rfl) (sq (v := (I (w64 (Dg + s2.2)))) (rv_add (a := Dg) (b := s2.2) rfl rfl) ?_))))
     revert h; refine br fun x34 hx35 h => ?_
     obtain ⟨b37, o38, hi36, -⟩ := (H.own 0 rfl).ix hx35
     refine sq (v := (pt b37 o38)) (rv_ix Tryz.underlying27 ti38 rfl rfl hi36) ?_
     obtain ⟨_, ⟨_, _, rfl, rfl, rfl⟩, hl39, hc40⟩ := ((H.own 0 rfl).at hx35 hi36).cells
     refine sq (v := (.agg #[(I x34.1), (I x34.2)])) (rv_load Tryz.underlying38 rfl ti38 rfl hl39 hc40) (sq (v := (Sl Db s2.1 Dc)) (rv_move rfl) (sq (v := (I Dg)) (rv_move rfl) (sq (v := (I o31)) (rv_move rfl) (sq (v := (I (w64 (Dg + o31)))) (rv_add (a := Dg) (b := o31) rfl rfl) ?_))))
     revert h; refine br fun x41 hx42 h => ?_
     obtain ⟨b44, o45, hi43, -⟩ := (H.own 0 rfl).ix hx42
     refine sq (v := (pt b44 o45)) (rv_ix Tryz.underlying27 ti38 rfl rfl hi43) ?_
     obtain ⟨_, ⟨_, _, rfl, rfl, rfl⟩, hl46, hc47⟩ := ((H.own 0 rfl).at hx42 hi43).cells
     refine sq (v := (.agg #[(I x41.1), (I x41.2)])) (rv_load Tryz.underlying38 rfl ti38 rfl hl46 hc47) (sq_end ?_)
     intro σ48 hm49
     replace H := H.grow (hm49.mono fun _ h => h); clear hm49
     revert h; refine br fun r50 hx51 h => ?_
     have hc52 := c_impl_compareHits hx51
     refine st_call (cx_call hc52 (ent_v (cap := []) hc52.fn rfl rfl) hn0 (H.sel' [0] rfl rfl : Hp S0 σ0 _ ([] ++ _))) wn ?_
     rintro _ σ53 ⟨_, ⟨rfl, rfl⟩, H, -⟩
     replace H : Hp _ _ _ [_] := H
     refine st (v := (B (decide (r50 < 0)))) (rv_lss (a := r50) (b := 0) rfl rfl) (st (v := (B (!(decide (r50 < 0))))) (rv_not rfl) (w_end (q_then ?_)))
     refine cd_cond (!(decide (r50 < 0))) rfl (fun hb54 => ?_) (fun hb54 => ?_)
     ·replace h := bif_t hb54 h
      refine c_ret (q_then_r (q_blk_r (q_then_r (q_blk_r ?_))))
      obtain rfl := sj h
      obtain rfl := hres _ rfl
      exact .inr (⟨_, rfl, rfl, _, σ53, fr_join ⟨rfl, trivial⟩, rfl, H.sel' [0] rfl rfl, hn4⟩)
     ·replace h := bif_f hb54 h
      refine c_skip (q_then (c_seq ?_))
      revert h; refine br fun x55 hx56 h => ?_
      obtain ⟨b58, o59, hi57, -⟩ := (H.own 0 rfl).ix hx56
      obtain ⟨_, ⟨_, _, rfl, rfl, rfl⟩, hl60, hc61⟩ := ((H.own 0 rfl).at hx56 hi57).cells
      revert h; refine br fun x62 hx63 h => ?_
      obtain ⟨b65, o66, hi64, -⟩ := (H.own 0 rfl).ix hx63
      obtain ⟨_, ⟨_, _, rfl, rfl, rfl⟩, hl67, hc68⟩ := ((H.own 0 rfl).at hx63 hi64).cells
      revert h; refine br fun x69 hx70 h => ?_
      obtain ⟨b72, o73, hi71, -⟩ := (H.own 0 rfl).ix hx70
      have Hs := H
      refine rg2 (σ := σ53) (Nm := Unit) 22 [21] [[false], [true]] [[(0, 0)], [(0, 0)], [(0, 0)], [(0, 0)], [(0, 0), (1, 1)], [(0, 0), (1, 1)], [(0, 0), (1, 1)], [(0, 0), (1, 1)], [(0, 0)], [(0, 0)], [(0, 0)], [(0, 0)], [(0, 0)], [(0, 0)], [(0, 0)], [(0, 0)], [(0, 0)], [(0, 0)], [(0, 0)], [(0, 0)], [(0, 0)], [(0, 1)]] 1 [fun _ => fun σm => Hp S0 σ0 σm [Ch.own 0 0 (Sl Db s2.1 Dc) s2.1] ∧ Md (cov []) σ53 σm, fun _ => fun σm => Hp S0 σ0 σm [Ch.own 0 0 (Sl Db s2.1 Dc) (s2.1.set (w64 (Dg + s2.2)).toNat (x55.1, x55.2))] ∧ Md (fun i => (cov []) i ∨ (fun b => blk (Sl Db s2.1 Dc) = some b) i) σ53 σm] [fun _ => (Sl Db s2.1 Dc), fun _ => (I Dg), fun _ => (I s2.2), fun _ => (I (w64 (Dg + s2.2))), fun _ => (Sl Db s2.1 Dc), fun _ => (I Dg), fun _ => (I o31), fun _ => (I (w64 (Dg + o31))), fun _ => (Sl Db s2.1 Dc), fun _ => (I Dg), fun _ => (I o31), fun _ => (I (w64 (Dg + o31))), fun _ => (pt b58 o59), fun _ => (.agg #[(I x55.1), (I x55.2)]), fun _ => (Sl Db s2.1 Dc), fun _ => (I Dg), fun _ => (I s2.2), fun _ => (I (w64 (Dg + s2.2))), fun _ => (pt b65 o66), fun _ => (.agg #[(I x62.1), (I x62.2)]), fun _ => (pt b72 o73), fun _ => undef] () (by kernel_rfl) (by kernel_rfl) ?_ ?_ ?_
      ·intro σm m0
       exact ⟨H.grow (m0.mono fun _ h => h.elim), m0⟩
      ·refine ac rfl (by
         intro k _nm ρ σm hJ hoff hdep
         have e0 := look_off (N := 82) (hoff 0 rfl) rfl
         exact dp_v (v := (Sl Db s2.1 Dc)) wn (rv_move e0) rfl hJ) ?_
       refine ac rfl (by
         intro k _nm ρ σm hJ hoff hdep
         have e3 := look_off (N := 82) (hoff 3 rfl) rfl
         exact dp_v (v := (I Dg)) wn (rv_move e3) rfl hJ) ?_
       refine ac rfl (by
         intro k _nm ρ σm hJ hoff hdep
         have e10 := look_off (N := 82) (hoff 10 rfl) rfl
         exact dp_v (v := (I s2.2)) wn (rv_move e10) rfl hJ) ?_
       refine ac rfl (by
         intro k _nm ρ σm hJ hoff hdep
         have e60 := hdep 1 rfl rfl 60 rfl
         have e61 := hdep 2 rfl rfl 61 rfl
         exact dp_v (v := (I (w64 (Dg + s2.2)))) wn (rv_add (a := Dg) (b := s2.2) e60 e61) rfl hJ) ?_
       refine ac rfl (by
         intro k _nm ρ σm hJ hoff hdep
         have e0 := look_off (N := 82) (hoff 0 rfl) rfl
         exact dp_v (v := (Sl Db s2.1 Dc)) wn (rv_move e0) rfl hJ) ?_
       refine ac rfl (by
         intro k _nm ρ σm hJ hoff hdep
         have e3 := look_off (N := 82) (hoff 3 rfl) rfl
         exact dp_v (v := (I Dg)) wn (rv_move e3) rfl hJ) ?_
       refine ac rfl (by
         intro k _nm ρ σm hJ hoff hdep
         have e11 := look_off (N := 82) (hoff 11 rfl) rfl
         exact dp_v (v := (I o31)) wn (rv_move e11) rfl hJ) ?_
       refine ac rfl (by
         intro k _nm ρ σm hJ hoff hdep
         have e64 := hdep 5 rfl rfl 64 rfl
         have e65 := hdep 6 rfl rfl 65 rfl
         exact dp_v (v := (I (w64 (Dg + o31)))) wn (rv_add (a := Dg) (b := o31) e64 e65) rfl hJ) ?_
       refine ac rfl (by
         intro k _nm ρ σm hJ hoff hdep
         have e0 := look_off (N := 82) (hoff 0 rfl) rfl
         exact dp_v (v := (Sl Db s2.1 Dc)) wn (rv_move e0) rfl hJ) ?_
       refine ac rfl (by
         intro k _nm ρ σm hJ hoff hdep
         have e3 := look_off (N := 82) (hoff 3 rfl) rfl
         exact dp_v (v := (I Dg)) wn (rv_move e3) rfl hJ) ?_
       refine ac rfl (by
         intro k _nm ρ σm hJ hoff hdep
         have e11 := look_off (N := 82) (hoff 11 rfl) rfl
         exact dp_v (v := (I o31)) wn (rv_move e11) rfl hJ) ?_
       refine ac rfl (by
         intro k _nm ρ σm hJ hoff hdep
         have e68 := hdep 9 rfl rfl 68 rfl
         have e69 := hdep 10 rfl rfl 69 rfl
         exact dp_v (v := (I (w64 (Dg + o31)))) wn (rv_add (a := Dg) (b := o31) e68 e69) rfl hJ) ?_
       refine ac rfl (by
         intro k _nm ρ σm hJ hoff hdep
         have e67 := hdep 8 rfl rfl 67 rfl
         have e70 := hdep 11 rfl rfl 70 rfl
         exact dp_v (v := (pt b58 o59)) wn (rv_ix Tryz.underlying27 ti38 e67 e70 hi57) rfl hJ) ?_
       refine all_cons (by
         refine ⟨?_, ?_⟩
         ·intro _nm ρ σm hJ hoff hdep
          have e71 := hdep 12 rfl rfl 71 rfl
          obtain ⟨H, m⟩ := id hJ
          obtain ⟨_, ⟨_, _, rfl, rfl, rfl⟩, hl60, hc61⟩ := ((H.own 0 rfl).at hx56 hi57).cells
          exact dp_v (v := (.agg #[(I x55.1), (I x55.2)])) wn (rv_load Tryz.underlying38 rfl ti38 e71 hl60 hc61) rfl hJ
         trivial) ?_
       refine ac rfl (by
         intro k _nm ρ σm hJ hoff hdep
         have e0 := look_off (N := 82) (hoff 0 rfl) rfl
         exact dp_v (v := (Sl Db s2.1 Dc)) wn (rv_move e0) rfl hJ) ?_
       refine ac rfl (by
         intro k _nm ρ σm hJ hoff hdep
         have e3 := look_off (N := 82) (hoff 3 rfl) rfl
         exact dp_v (v := (I Dg)) wn (rv_move e3) rfl hJ) ?_
       refine ac rfl (by
         intro k _nm ρ σm hJ hoff hdep
         have e10 := look_off (N := 82) (hoff 10 rfl) rfl
         exact dp_v (v := (I s2.2)) wn (rv_move e10) rfl hJ) ?_
       refine ac rfl (by
         intro k _nm ρ σm hJ hoff hdep
         have e74 := hdep 15 rfl rfl 74 rfl
         have e75 := hdep 16 rfl rfl 75 rfl
         exact dp_v (v := (I (w64 (Dg + s2.2)))) wn (rv_add (a := Dg) (b := s2.2) e74 e75) rfl hJ) ?_
       refine ac rfl (by
         intro k _nm ρ σm hJ hoff hdep
         have e73 := hdep 14 rfl rfl 73 rfl
         have e76 := hdep 17 rfl rfl 76 rfl
         exact dp_v (v := (pt b65 o66)) wn (rv_ix Tryz.underlying27 ti38 e73 e76 hi64) rfl hJ) ?_
       refine all_cons (by
         refine ⟨?_, ?_⟩
         ·intro _nm ρ σm hJ hoff hdep
          have e77 := hdep 18 rfl rfl 77 rfl
          obtain ⟨H, m⟩ := id hJ
          obtain ⟨_, ⟨_, _, rfl, rfl, rfl⟩, hl67, hc68⟩ := ((H.own 0 rfl).at hx63 hi64).cells
          exact dp_v (v := (.agg #[(I x62.1), (I x62.2)])) wn (rv_load Tryz.underlying38 rfl ti38 e77 hl67 hc68) rfl hJ
         trivial) ?_
       refine ac rfl (by
         intro k _nm ρ σm hJ hoff hdep
         have e59 := hdep 0 rfl rfl 59 rfl
         have e62 := hdep 3 rfl rfl 62 rfl
         exact dp_v (v := (pt b72 o73)) wn (rv_ix Tryz.underlying27 ti38 e59 e62 hi71) rfl hJ) ?_
       refine all_cons (by
         refine ⟨?_, ?_⟩
         ·intro _nm ρ σm hJ hoff hdep
          have e79 := hdep 20 rfl rfl 79 rfl
          have e72 := hdep 13 rfl rfl 72 rfl
          obtain ⟨H, m⟩ := id hJ
          refine dp_exS wn rfl (ex_store_own (e' := (x55.1, x55.2)) (vs := [(I x55.1), (I x55.2)]) (k := 0) H (i := 0) rfl ti38 hx70 hi71 e79 rfl e72 rfl rfl (Nat.le_of_ble_eq_true rfl) (by simp [plain]) (by rintro _ ⟨_, _, rfl, rfl, rfl⟩; exact ⟨[(I x55.1)], [(I x55.2)], rfl, rfl, rfl⟩)) ?_
          rintro σq ⟨H2, m2⟩
          exact ⟨_, (), rfl, ⟨H2.sel' [0] rfl rfl, m.comp m2⟩, stab [0, 1, 2, 3, 4, 5, 6, 7, 8, 9, 10, 11, 12, 13, 14, 15, 16, 17, 18, 19, 20] (by kernel_rfl) ⟨rfl, rfl, rfl, rfl, rfl, rfl, rfl, rfl, rfl, rfl, rfl, rfl, rfl, rfl, rfl, rfl, rfl, rfl, rfl, rfl, rfl, trivial⟩⟩
         trivial) ?_
       exact all_nil
      ·intro _nm ρ σ74 hJ hoff hrel
       have e0 := look_off (N := 82) (hoff 0 rfl) rfl
       have e2 := look_off (N := 82) (hoff 2 rfl) rfl
       have e3 := look_off (N := 82) (hoff 3 rfl) rfl
       have e4 := look_off (N := 82) (hoff 4 rfl) rfl
       have e11 := look_off (N := 82) (hoff 11 rfl) rfl
       have e63 := hrel 4 rfl 63 rfl
       have e66 := hrel 7 rfl 66 rfl
       have e78 := hrel 19 rfl 78 rfl
       obtain ⟨H, -⟩ := (show Hp S0 σ0 σ74 [Ch.own 0 0 (Sl Db s2.1 Dc) (s2.1.set (w64 (Dg + s2.2)).toNat (x55.1, x55.2))] ∧ Md (fun i => (cov []) i ∨ (fun b => blk (Sl Db s2.1 Dc) = some b) i) σ53 σ74 from hJ)
       clear hJ Hs
       rw [fr_lookL (L := [(0, (Sl Db s2.1 Dc)), (2, (I De)), (3, (I Dg)), (4, (.func (.func 72) #[] #[])), (11, (I o31)), (63, (Sl Db s2.1 Dc)), (66, (I (w64 (Dg + o31)))), (78, (.agg #[(I x62.1), (I x62.2)]))]) ⟨e0, e2, e3, e4, e11, e63, e66, e78, trivial⟩]
       clear hoff hrel e0 e2 e3 e4 e11 e63 e66 e78
       have hsl : (Sl Db s2.1 Dc) = (Sl Db (s2.1.set (w64 (Dg + s2.2)).toNat (x55.1, x55.2)) Dc) := sl_len (by simp)
       rw [hsl]; rw [hsl] at H; clear hsl
       revert h; refine br fun x75 hx76 h => ?_
       obtain ⟨b78, o79, hi77, -⟩ := (H.own 0 rfl).ix hx76
       refine st (v := (pt b78 o79)) (rv_ix Tryz.underlying27 ti38 rfl rfl hi77) ?_
       refine st_exS (ex_store_own (e' := (x62.1, x62.2)) (vs := [(I x62.1), (I x62.2)]) (k := 0) H (i := 0) rfl ti38 hx76 hi77 rfl rfl rfl rfl rfl (Nat.le_of_ble_eq_true rfl) (by simp [plain]) (by rintro _ ⟨_, _, rfl, rfl, rfl⟩; exact ⟨[(I x62.1)], [(I x62.2)], rfl, rfl, rfl⟩)) wn ?_
       rintro σ80 ⟨H, -⟩
       have hsl : (Sl Db (s2.1.set (w64 (Dg + s2.2)).toNat (x55.1, x55.2)) Dc) = (Sl Db ((s2.1.set (w64 (Dg + s2.2)).toNat (x55.1, x55.2)).set (w64 (Dg + o31)).toNat (x62.1, x62.2)) Dc) := sl_len List.length_set.symm
       rw [hsl]; rw [hsl] at H; clear hsl
       refine w_end (q_then (rg (sm (I o31) rfl (sa (I o31) rfl (w_end (q_blk (q_then ?_)))))))
       obtain rfl := sj h
       exact ⟨_, rfl, _, σ80, fr_join ⟨rfl, rfl, rfl, rfl, rfl, trivial⟩, rfl, H.sel' [0] rfl rfl, (List.length_set.trans (List.length_set.trans hn4))⟩
 ·clear hj
  have h := h'
  clear h' H
  rintro e a w (⟨t81, rfl, rfl, ρ, σ82, rfl, rfl, H, hn83⟩ | ⟨t84, rfl, rfl, ρ, σ85, rfl, rfl, H, hn86⟩)
  ·replace h := selim_l h
   obtain rfl := sj h
   exact fin_end (v := (.tuple #[])) (results_ok Tryz.results154 res_nil rfl) ⟨rfl, rfl, hn83⟩ (H.sel' [0] rfl rfl)
  ·replace h := selim_r h
   obtain rfl := sj h
   exact fin_ret (v := (.tuple #[])) (results_ok Tryz.results154 res_nil rfl) ⟨rfl, rfl, hn86⟩ (H.sel' [0] rfl rfl)

theorem c_slices_heapSortCmpFunc_impl_Hit__impl_compareHits {Cy : List (Int × Int)} {Cz : Int} {Da : Int} {Db : Option Addr} {Dc : Nat} {r : (List (Int × Int))} (h : M.slices_heapSortCmpFunc_impl_Hit__impl_compareHits Cy Cz Da = some r) :
    Cal2 Tryz.prog 139 [(Sl Db Cy Dc), (I Cz), (I Da), (.func (.func 72) #[] #[])] [Ch.own 0 0 (Sl Db Cy Dc) Cy] (fun n0 v L => v = (.tuple #[]) ∧ L = [Ch.own 0 0 (Sl Db r Dc) r] ∧ r.length = Cy.length) := by
 refine cal2 (n := 60) Tryz.func139 rfl rfl rfl rfl ?_
 intro S0 σ0 n0 hn0 H
 unfold M.slices_heapSortCmpFunc_impl_Hit__impl_compareHits at h
 refine c_seq (rg (sm (I Cz) rfl (sa (I Cz) rfl (w_end (q_then (c_seq (rg (sa (I 0) rfl (w_end (q_then (c_seq ?_)))))))))))
 refine rg (sm (I Da) rfl (sm (I Cz) rfl (st (v := (I (w64 (Da - Cz)))) (rv_sub (a := Da) (b := Cz) rfl rfl) (sa (I (w64 (Da - Cz))) rfl (w_end (q_then (c_seq (c_seq (rg (sm (I (w64 (Da - Cz))) rfl (st (v := (I (w64 ((w64 (Da - Cz)) - 1)))) (rv_sub (a := (w64 (Da - Cz))) (b := 1) rfl rfl) ?_)))))))))))
 refine st (v := (I (w64 ((w64 ((w64 (Da - Cz)) - 1)).tdiv 2)))) (rv_quo (a := (w64 ((w64 (Da - Cz)) - 1))) (b := 2) rfl rfl (by decide)) ?_
 refine sa (I (w64 ((w64 ((w64 (Da - Cz)) - 1)).tdiv 2))) rfl (w_end (q_then ?_))
 obtain ⟨o1, hj, h'⟩ := bind_some h
 clear h
 refine c_cut (fun e a w => e = .normal ∧ ∃ (ρ : Nat → Value) (σ : St), a = fr 60 (updL ρ [(0, (Sl Db o1 Dc)), (3, (.func (.func 72) #[] #[])), (8, (I Cz)), (9, (I 0)), (10, (I (w64 (Da - Cz))))]) ∧ w = σ.w ∧ Hp S0 σ0 σ [Ch.own 0 0 (Sl Db o1 Dc) o1] ∧ o1.length = Cy.length) ?_ ?_
 ·clear h'
  rename _ = some o1 => h
  refine c_blk (wp_loopM _ h (fun s2 a w => ∃ (ρ : Nat → Value) (σ : St), a = fr 60 (updL ρ [(0, (Sl Db s2.1 Dc)), (3, (.func (.func 72) #[] #[])), (8, (I Cz)), (9, (I 0)), (10, (I (w64 (Da - Cz)))), (11, (I s2.2))]) ∧ w = σ.w ∧ Hp S0 σ0 σ [Ch.own 0 0 (Sl Db s2.1 Dc) s2.1] ∧ s2.1.length = Cy.length) ⟨_, σ0, fr_join ⟨rfl, rfl, rfl, rfl, rfl, rfl, trivial⟩, rfl, H.sel' [0] rfl rfl, rfl⟩ ?_)
  clear h H
  rintro s2 a w o ⟨ρ, σ3, rfl, rfl, H, hn4⟩ h hres
  refine c_seq (c_seq (rg (sm (I s2.2) rfl (st (v := (B (decide (0 ≤ s2.2)))) (rv_geq (a := s2.2) (b := 0) rfl rfl) (w_end (q_then ?_))))))
  refine cd_cond (decide (0 ≤ s2.2)) rfl (fun hb5 => ?_) (fun hb5 => ?_)
  ·replace h := bif_t hb5 h
   refine c_skip (q_then (c_seq (c_blk (rg (sm (Sl Db s2.1 Dc) rfl (sm (I s2.2) rfl (sm (I (w64 (Da - Cz))) rfl (sm (I Cz) rfl (sm (.func (.func 72) #[] #[]) rfl ?_)))))))))
   revert h; refine br fun r6 hx7 h => ?_
   have hc8 := c_slices_siftDownCmpFunc_impl_Hit__impl_compareHits (Db := Db) (Dc := Dc) hx7
   refine st_call (cx_call hc8 (ent_f hc8.fn rfl) hn0 (H.sel' [0] rfl rfl : Hp S0 σ0 _ ([_] ++ _))) wn ?_
   rintro _ σ10 ⟨_, ⟨rfl, rfl, hn9⟩, H, -⟩
   replace H : Hp _ _ _ [_] := H
   have hsl : (Sl Db s2.1 Dc) = (Sl Db r6 Dc) := sl_len hn9.symm
   try rw [hsl]
   try rw [hsl] at H
   clear hsl
   refine w_end (q_blk (q_then (rg (sm (I s2.2) rfl (st (v := (I (w64 (s2.2 - 1)))) (rv_sub (a := s2.2) (b := 1) rfl rfl) (sa (I (w64 (s2.2 - 1))) rfl (w_end (q_then ?_))))))))
   obtain rfl := sj h
   exact ⟨_, rfl, _, σ10, fr_join ⟨rfl, rfl, rfl, rfl, rfl, rfl, trivial⟩, rfl, H.sel' [0] rfl rfl, (hn9.trans hn4)⟩
  ·replace h := bif_f hb5 h
   refine c_exit (q_then_x (q_then_x (q_blk_hit ?_)))
   obtain rfl := sj h
   obtain rfl := hres _ rfl
   exact ⟨rfl, _, σ3, fr_join ⟨rfl, rfl, rfl, rfl, rfl, trivial⟩, rfl, H.sel' [0] rfl rfl, hn4⟩
 ·clear hj
  have h := h'
  clear h' H
  rintro e a w ⟨rfl, ρ, σ11, rfl, rfl, H, hn12⟩
  refine q_then (c_seq (rg (sm (I (w64 (Da - Cz))) rfl (st (v := (I (w64 ((w64 (Da - Cz)) - 1)))) (rv_sub (a := (w64 (Da - Cz))) (b := 1) rfl rfl) (sa (I (w64 ((w64 (Da - Cz)) - 1))) rfl (w_end (q_then ?_)))))))
  obtain ⟨o13, hj, h'⟩ := bind_some h
  clear h
  refine c_cut (fun e a w => e = .normal ∧ ∃ (ρ : Nat → Value) (σ : St), a = fr 60 (updL ρ [(0, (Sl Db o13 Dc))]) ∧ w = σ.w ∧ Hp S0 σ0 σ [Ch.own 0 0 (Sl Db o13 Dc) o13] ∧ o13.length = o1.length) ?_ ?_
  ·clear h'
   rename _ = some o13 => h
   refine c_blk (wp_loopM _ h (fun s14 a w => ∃ (ρ : Nat → Value) (σ : St), a = fr 60 (updL ρ [(0, (Sl Db s14.1 Dc)), (3, (.func (.func 72) #[] #[])), (8, (I Cz)), (9, (I 0)), (12, (I s14.2))]) ∧ w = σ.w ∧ Hp S0 σ0 σ [Ch.own 0 0 (Sl Db s14.1 Dc) s14.1] ∧ s14.1.length = o1.length) ⟨_, σ11, fr_join ⟨rfl, rfl, rfl, rfl, rfl, trivial⟩, rfl, H.sel' [0] rfl rfl, rfl⟩ ?_)
   clear h H
   rintro s14 a w o ⟨ρ, σ15, rfl, rfl, H, hn16⟩ h hres
   refine c_seq (c_seq (rg (sm (I s14.2) rfl (st (v := (B (decide (0 ≤ s14.2)))) (rv_geq (a := s14.2) (b := 0) rfl rfl) (w_end (q_then ?_))))))
   refine cd_cond (decide (0 ≤ s14.2)) rfl (fun hb17 => ?_) (fun hb17 => ?_)
   ·replace h := bif_t hb17 h
    refine c_skip (q_then (c_seq (c_blk (c_seq ?_))))
    revert h; refine br fun x18 hx19 h => ?_
    obtain ⟨b21, o22, hi20, -⟩ := (H.own 0 rfl).ix hx19
    obtain ⟨_, ⟨_, _, rfl, rfl, rfl⟩, hl23, hc24⟩ := ((H.own 0 rfl).at hx19 hi20).cells
    revert h; refine br fun x25 hx26 h => ?_
    obtain ⟨b28, o29, hi27, -⟩ := (H.own 0 rfl).ix hx26
    obtain ⟨_, ⟨_, _, rfl, rfl, rfl⟩, hl30, hc31⟩ := ((H.own 0 rfl).at hx26 hi27).cells
    revert h; refine br fun x32 hx33 h => ?_
    obtain ⟨b35, o36, hi34, -⟩ := (H.own 0 rfl).ix hx33
    have Hs := H
    refine rg2 (σ := σ15) (Nm := Unit) 18 [17] [[false], [true]] [[(0, 0)], [(0, 0)], [(0, 0), (1, 1)], [(0, 0), (1, 1)], [(0, 0), (1, 1)], [(0, 0), (1, 1)], [(0, 0)], [(0, 0)], [(0, 0)], [(0, 0)], [(0, 0)], [(0, 0)], [(0, 0)], [(0, 0)], [(0, 0)], [(0, 0)], [(0, 0)], [(0, 1)]] 1 [fun _ => fun σm => Hp S0 σ0 σm [Ch.own 0 0 (Sl Db s14.1 Dc) s14.1] ∧ Md (cov []) σ15 σm, fun _ => fun σm => Hp S0 σ0 σm [Ch.own 0 0 (Sl Db s14.1 Dc) (s14.1.set Cz.toNat (x18.1, x18.2))] ∧ Md (fun i => (cov []) i ∨ (fun b => blk (Sl Db s14.1 Dc) = some b) i) σ15 σm] [fun _ => (Sl Db s14.1 Dc), fun _ => (I Cz), fun _ => (Sl Db s14.1 Dc), fun _ => (I Cz), fun _ => (I s14.2), fun _ => (I (w64 (Cz + s14.2))), fun _ => (Sl Db s14.1 Dc), fun _ => (I Cz), fun _ => (I s14.2), fun _ => (I (w64 (Cz + s14.2))), fun _ => (pt b21 o22), fun _ => (.agg #[(I x18.1), (I x18.2)]), fun _ => (Sl Db s14.1 Dc), fun _ => (I Cz), fun _ => (pt b28 o29), fun _ => (.agg #[(I x25.1), (I x25.2)]), fun _ => (pt b35 o36), fun _ => undef] () (by kernel_rfl) (by kernel_rfl) ?_ ?_ ?_
    ·intro σm m0
     exact ⟨H.grow (m0.mono fun _ h => h.elim), m0⟩
    ·refine ac rfl (by
       intro k _nm ρ σm hJ hoff hdep
       have e0 := look_off (N := 60) (hoff 0 rfl) rfl
       exact dp_v (v := (Sl Db s14.1 Dc)) wn (rv_move e0) rfl hJ) ?_
     refine ac rfl (by
       intro k _nm ρ σm hJ hoff hdep
       have e8 := look_off (N := 60) (hoff 8 rfl) rfl
       exact dp_v (v := (I Cz)) wn (rv_move e8) rfl hJ) ?_
     refine ac rfl (by
       intro k _nm ρ σm hJ hoff hdep
       have e0 := look_off (N := 60) (hoff 0 rfl) rfl
       exact dp_v (v := (Sl Db s14.1 Dc)) wn (rv_move e0) rfl hJ) ?_
     refine ac rfl (by
       intro k _nm ρ σm hJ hoff hdep
       have e8 := look_off (N := 60) (hoff 8 rfl) rfl
       exact dp_v (v := (I Cz)) wn (rv_move e8) rfl hJ) ?_
     refine ac rfl (by
       intro k _nm ρ σm hJ hoff hdep
       have e12 := look_off (N := 60) (hoff 12 rfl) rfl
       exact dp_v (v := (I s14.2)) wn (rv_move e12) rfl hJ) ?_
     refine ac rfl (by
       intro k _nm ρ σm hJ hoff hdep
       have e39 := hdep 3 rfl rfl 39 rfl
       have e40 := hdep 4 rfl rfl 40 rfl
       exact dp_v (v := (I (w64 (Cz + s14.2)))) wn (rv_add (a := Cz) (b := s14.2) e39 e40) rfl hJ) ?_
     refine ac rfl (by
       intro k _nm ρ σm hJ hoff hdep
       have e0 := look_off (N := 60) (hoff 0 rfl) rfl
       exact dp_v (v := (Sl Db s14.1 Dc)) wn (rv_move e0) rfl hJ) ?_
     refine ac rfl (by
       intro k _nm ρ σm hJ hoff hdep
       have e8 := look_off (N := 60) (hoff 8 rfl) rfl
       exact dp_v (v := (I Cz)) wn (rv_move e8) rfl hJ) ?_
     refine ac rfl (by
       intro k _nm ρ σm hJ hoff hdep
       have e12 := look_off (N := 60) (hoff 12 rfl) rfl
       exact dp_v (v := (I s14.2)) wn (rv_move e12) rfl hJ) ?_
     refine ac rfl (by
       intro k _nm ρ σm hJ hoff hdep
       have e43 := hdep 7 rfl rfl 43 rfl
       have e44 := hdep 8 rfl rfl 44 rfl
       exact dp_v (v := (I (w64 (Cz + s14.2)))) wn (rv_add (a := Cz) (b := s14.2) e43 e44) rfl hJ) ?_
     refine ac rfl (by
       intro k _nm ρ σm hJ hoff hdep
       have e42 := hdep 6 rfl rfl 42 rfl
       have e45 := hdep 9 rfl rfl 45 rfl
       exact dp_v (v := (pt b21 o22)) wn (rv_ix Tryz.underlying27 ti38 e42 e45 hi20) rfl hJ) ?_
     refine all_cons (by
       refine ⟨?_, ?_⟩
       ·intro _nm ρ σm hJ hoff hdep
        have e46 := hdep 10 rfl rfl 46 rfl
        obtain ⟨H, m⟩ := id hJ
        obtain ⟨_, ⟨_, _, rfl, rfl, rfl⟩, hl23, hc24⟩ := ((H.own 0 rfl).at hx19 hi20).cells
        exact dp_v (v := (.agg #[(I x18.1), (I x18.2)])) wn (rv_load Tryz.underlying38 rfl ti38 e46 hl23 hc24) rfl hJ
       trivial) ?_
     refine ac rfl (by
       intro k _nm ρ σm hJ hoff hdep
       have e0 := look_off (N := 60) (hoff 0 rfl) rfl
       exact dp_v (v := (Sl Db s14.1 Dc)) wn (rv_move e0) rfl hJ) ?_
     refine ac rfl (by
       intro k _nm ρ σm hJ hoff hdep
       have e8 := look_off (N := 60) (hoff 8 rfl) rfl
       exact dp_v (v := (I Cz)) wn (rv_move e8) rfl hJ) ?_
     refine ac rfl (by
       intro k _nm ρ σm hJ hoff hdep
       have e48 := hdep 12 rfl rfl 48 rfl
       have e49 := hdep 13 rfl rfl 49 rfl
       exact dp_v (v := (pt b28 o29)) wn (rv_ix Tryz.underlying27 ti38 e48 e49 hi27) rfl hJ) ?_
     refine all_cons (by
       refine ⟨?_, ?_⟩
       ·intro _nm ρ σm hJ hoff hdep
        have e50 := hdep 14 rfl rfl 50 rfl
        obtain ⟨H, m⟩ := id hJ
        obtain ⟨_, ⟨_, _, rfl, rfl, rfl⟩, hl30, hc31⟩ := ((H.own 0 rfl).at hx26 hi27).cells
        exact dp_v (v := (.agg #[(I x25.1), (I x25.2)])) wn (rv_load Tryz.underlying38 rfl ti38 e50 hl30 hc31) rfl hJ
       trivial) ?_
     refine ac rfl (by
       intro k _nm ρ σm hJ hoff hdep
       have e36 := hdep 0 rfl rfl 36 rfl
       have e37 := hdep 1 rfl rfl 37 rfl
       exact dp_v (v := (pt b35 o36)) wn (rv_ix Tryz.underlying27 ti38 e36 e37 hi34) rfl hJ) ?_
     refine all_cons (by
       refine ⟨?_, ?_⟩
       ·intro _nm ρ σm hJ hoff hdep
        have e52 := hdep 16 rfl rfl 52 rfl
        have e47 := hdep 11 rfl rfl 47 rfl
        obtain ⟨H, m⟩ := id hJ
        refine dp_exS wn rfl (ex_store_own (e' := (x18.1, x18.2)) (vs := [(I x18.1), (I x18.2)]) (k := 0) H (i := 0) rfl ti38 hx33 hi34 e52 rfl e47 rfl rfl (Nat.le_of_ble_eq_true rfl) (by simp [plain]) (by rintro _ ⟨_, _, rfl, rfl, rfl⟩; exact ⟨[(I x18.1)], [(I x18.2)], rfl, rfl, rfl⟩)) ?_
        rintro σq ⟨H2, m2⟩
        exact ⟨_, (), rfl, ⟨H2.sel' [0] rfl rfl, m.comp m2⟩, stab [0, 1, 2, 3, 4, 5, 6, 7, 8, 9, 10, 11, 12, 13, 14, 15, 16] (by kernel_rfl) ⟨rfl, rfl, rfl, rfl, rfl, rfl, rfl, rfl, rfl, rfl, rfl, rfl, rfl, rfl, rfl, rfl, rfl, trivial⟩⟩
       trivial) ?_
     exact all_nil
    ·intro _nm ρ σ37 hJ hoff hrel
     have e0 := look_off (N := 60) (hoff 0 rfl) rfl
     have e3 := look_off (N := 60) (hoff 3 rfl) rfl
     have e8 := look_off (N := 60) (hoff 8 rfl) rfl
     have e9 := look_off (N := 60) (hoff 9 rfl) rfl
     have e12 := look_off (N := 60) (hoff 12 rfl) rfl
     have e38 := hrel 2 rfl 38 rfl
     have e41 := hrel 5 rfl 41 rfl
     have e51 := hrel 15 rfl 51 rfl
     obtain ⟨H, -⟩ := (show Hp S0 σ0 σ37 [Ch.own 0 0 (Sl Db s14.1 Dc) (s14.1.set Cz.toNat (x18.1, x18.2))] ∧ Md (fun i => (cov []) i ∨ (fun b => blk (Sl Db s14.1 Dc) = some b) i) σ15 σ37 from hJ)
     clear hJ Hs
     rw [fr_lookL (L := [(0, (Sl Db s14.1 Dc)), (3, (.func (.func 72) #[] #[])), (8, (I Cz)), (9, (I 0)), (12, (I s14.2)), (38, (Sl Db s14.1 Dc)), (41, (I (w64 (Cz + s14.2)))), (51, (.agg #[(I x25.1), (I x25.2)]))]) ⟨e0, e3, e8, e9, e12, e38, e41, e51, trivial⟩]
     clear hoff hrel e0 e3 e8 e9 e12 e38 e41 e51
     have hsl : (Sl Db s14.1 Dc) = (Sl Db (s14.1.set Cz.toNat (x18.1, x18.2)) Dc) := sl_len (by simp)
     rw [hsl]; rw [hsl] at H; clear hsl
     revert h; refine br fun x38 hx39 h => ?_
     obtain ⟨b41, o42, hi40, -⟩ := (H.own 0 rfl).ix hx39
     refine st (v := (pt b41 o42)) (rv_ix Tryz.underlying27 ti38 rfl rfl hi40) ?_
     refine st_exS (ex_store_own (e' := (x25.1, x25.2)) (vs := [(I x25.1), (I x25.2)]) (k := 0) H (i := 0) rfl ti38 hx39 hi40 rfl rfl rfl rfl rfl (Nat.le_of_ble_eq_true rfl) (by simp [plain]) (by rintro _ ⟨_, _, rfl, rfl, rfl⟩; exact ⟨[(I x25.1)], [(I x25.2)], rfl, rfl, rfl⟩)) wn ?_
     rintro σ43 ⟨H, -⟩
     have hsl : (Sl Db (s14.1.set Cz.toNat (x18.1, x18.2)) Dc) = (Sl Db ((s14.1.set Cz.toNat (x18.1, x18.2)).set (w64 (Cz + s14.2)).toNat (x25.1, x25.2)) Dc) := sl_len List.length_set.symm
     rw [hsl]; rw [hsl] at H; clear hsl
     refine w_end (q_then (rg (sm (Sl Db ((s14.1.set Cz.toNat (x18.1, x18.2)).set (w64 (Cz + s14.2)).toNat (x25.1, x25.2)) Dc) rfl (sm (I 0) rfl (sm (I s14.2) rfl (sm (I Cz) rfl (sm (.func (.func 72) #[] #[]) rfl ?_)))))))
     revert h; refine br fun r44 hx45 h => ?_
     have hc46 := c_slices_siftDownCmpFunc_impl_Hit__impl_compareHits (Db := Db) (Dc := Dc) hx45
     refine st_call (cx_call hc46 (ent_f hc46.fn rfl) hn0 (H.sel' [0] rfl rfl : Hp S0 σ0 _ ([_] ++ _))) wn ?_
     rintro _ σ48 ⟨_, ⟨rfl, rfl, hn47⟩, H, -⟩
     replace H : Hp _ _ _ [_] := H
     have hsl : (Sl Db ((s14.1.set Cz.toNat (x18.1, x18.2)).set (w64 (Cz + s14.2)).toNat (x25.1, x25.2)) Dc) = (Sl Db r44 Dc) := sl_len hn47.symm
     try rw [hsl]
     try rw [hsl] at H
     clear hsl
     refine w_end (q_blk (q_then (rg (sm (I s14.2) rfl (st (v := (I (w64 (s14.2 - 1)))) (rv_sub (a := s14.2) (b := 1) rfl rfl) (sa (I (w64 (s14.2 - 1))) rfl (w_end (q_then ?_))))))))
     obtain rfl := sj h
     exact ⟨_, rfl, _, σ48, fr_join ⟨rfl, rfl, rfl, rfl, rfl, trivial⟩, rfl, H.sel' [0] rfl rfl, ((hn47.trans (List.length_set.trans (List.length_set.trans (hn16.trans hn12)))).trans hn12.symm)⟩
   ·replace h := bif_f hb17 h
    refine c_exit (q_then_x (q_then_x (q_blk_hit ?_)))
    obtain rfl := sj h
    obtain rfl := hres _ rfl
    exact ⟨rfl, _, σ15, fr_join ⟨rfl, trivial⟩, rfl, H.sel' [0] rfl rfl, ((hn16.trans hn12).trans hn12.symm)⟩
  ·clear hj
   have h := h'
   clear h' H
   rintro e a w ⟨rfl, ρ, σ49, rfl, rfl, H, hn50⟩
   obtain rfl := sj h
   exact fin_end (v := (.tuple #[])) (results_ok Tryz.results139 res_nil rfl) ⟨rfl, rfl, (hn50.trans hn12)⟩ (H.sel' [0] rfl rfl)

theorem c_slices_breakPatternsCmpFunc_impl_Hit__impl_compareHits {Cy : List (Int × Int)} {Cz : Int} {Da : Int} {Db : Option Addr} {Dc : Nat} {r : (List (Int × Int))} (h : M.slices_breakPatternsCmpFunc_impl_Hit__impl_compareHits Cy Cz Da = some r) :
    Cal2 Tryz.prog 140 [(Sl Db Cy Dc), (I Cz), (I Da), (.func (.func 72) #[] #[])] [Ch.own 0 0 (Sl Db Cy Dc) Cy] (fun n0 v L => v = (.tuple #[]) ∧ L = [Ch.own 0 0 (Sl Db r Dc) r] ∧ r.length = Cy.length) := by
 refine cal2 (n := 67) Tryz.func140 rfl rfl rfl rfl ?_
 intro S0 σ0 n0 hn0 H
 unfold M.slices_breakPatternsCmpFunc_impl_Hit__impl_compareHits at h
 refine c_seq (rg (sm (I Da) rfl (sm (I Cz) rfl (st (v := (I (w64 (Da - Cz)))) (rv_sub (a := Da) (b := Cz) rfl rfl) (sa (I (w64 (Da - Cz))) rfl (w_end (q_then (c_seq (rg (sm (I (w64 (Da - Cz))) rfl (st (v := (B (decide (8 ≤ (w64 (Da - Cz)))))) (rv_geq (a := (w64 (Da - Cz))) (b := 8) rfl rfl) ?_)))))))))))
 refine w_end (q_then ?_)
 refine cd_cond (decide (8 ≤ (w64 (Da - Cz)))) rfl (fun hb1 => ?_) (fun hb1 => ?_)
 ·replace h := bif_t hb1 h
  refine c_seq (rg (sm (I (w64 (Da - Cz))) rfl (st (v := (.int .u64 (wk .u64 (w64 (Da - Cz))))) (rvk_conv (k := .i64) (k' := .u64) (a := (w64 (Da - Cz))) Tryz.underlying3 Tryz.underlying176 rfl) (st_ex (ex_alloc (cs := [(.int .u64 0)]) H hn0 ti176 rfl) wn ?_))))
  rintro _ σ3 ⟨b2, rfl, H, -⟩
  refine st_exS (ex_store_box (k := 0) (cs := [(.int .u64 0)]) (vs := [(.int .u64 (wk .u64 (w64 (Da - Cz))))]) (cs' := [(.int .u64 (wk .u64 (w64 (Da - Cz))))]) H (i := 0) rfl ti176 rfl rfl rfl rfl rfl (Nat.le_of_ble_eq_true rfl) (by simp [plain]) rfl) wn ?_
  rintro σ4 ⟨H, -⟩
  refine w_end (q_then (c_seq (rg (sm (I (w64 (Da - Cz))) rfl ?_))))
  revert h; refine br fun r5 hx6 h => ?_
  have hc7 := c_slices_nextPowerOfTwo hx6
  refine st_call (cx_call hc7 (ent_f hc7.fn rfl) hn0 (H.sel' [0, 1] rfl rfl : Hp S0 σ0 _ ([] ++ _))) wn ?_
  rintro _ σ8 ⟨_, ⟨rfl, rfl⟩, H, -⟩
  replace H : Hp _ _ _ [_, _] := H
  refine sa (.int .u64 r5) rfl (w_end (q_then (c_seq (rg (sm (I Cz) rfl (sm (I (w64 (Da - Cz))) rfl ?_))))))
  refine st (v := (I (w64 ((w64 (Da - Cz)).tdiv 4)))) (rv_quo (a := (w64 (Da - Cz))) (b := 4) rfl rfl (by decide)) ?_
  refine st (v := (I (w64 ((w64 ((w64 (Da - Cz)).tdiv 4)) * 2)))) (rv_mul (a := (w64 ((w64 (Da - Cz)).tdiv 4))) (b := 2) rfl rfl) (st (v := (I (w64 (Cz + (w64 ((w64 ((w64 (Da - Cz)).tdiv 4)) * 2)))))) (rv_add (a := Cz) (b := (w64 ((w64 ((w64 (Da - Cz)).tdiv 4)) * 2))) rfl rfl) (st (v := (I (w64 ((w64 (Cz + (w64 ((w64 ((w64 (Da - Cz)).tdiv 4)) * 2)))) - 1)))) (rv_sub (a := (w64 (Cz + (w64 ((w64 ((w64 (Da - Cz)).tdiv 4)) * 2))))) (b := 1) rfl rfl) (sa (I (w64 ((w64 (Cz + (w64 ((w64 ((w64 (Da - Cz)).tdiv 4)) * 2)))) - 1))) rfl (w_end (q_then ?_)))))
  obtain ⟨o9, hj, h'⟩ := bind_some h
  clear h
  refine c_cut (fun e a w => e = .normal ∧ ∃ (ρ : Nat → Value) (σ : St), a = fr 67 (updL ρ [(0, (Sl Db o9 Dc))]) ∧ w = σ.w ∧ Hp S0 σ0 σ [Ch.own 0 0 (Sl Db o9 Dc) o9] ∧ o9.length = Cy.length) ?_ ?_
  ·clear h'
   rename _ = some o9 => h
   refine c_blk (wp_loopM _ h (fun s10 a w => ∃ (ρ : Nat → Value) (σ : St), a = fr 67 (updL ρ [(0, (Sl Db s10.1 Dc)), (1, (I Cz)), (8, (I (w64 (Da - Cz)))), (9, (pt b2 0)), (10, (.int .u64 r5)), (11, (I s10.2.2))]) ∧ w = σ.w ∧ Hp S0 σ0 σ [Ch.bx n0 b2 0 [(.int .u64 s10.2.1)] [] [], Ch.own 0 0 (Sl Db s10.1 Dc) s10.1] ∧ s10.1.length = Cy.length) ⟨_, σ8, fr_join ⟨rfl, rfl, rfl, rfl, rfl, rfl, trivial⟩, rfl, H.sel' [0, 1] rfl rfl, rfl⟩ ?_)
   clear h H
   rintro s10 a w o ⟨ρ, σ11, rfl, rfl, H, hn12⟩ h hres
   refine c_seq (c_seq (rg (sm (I s10.2.2) rfl (sm (I Cz) rfl (sm (I (w64 (Da - Cz))) rfl ?_)))))
   refine st (v := (I (w64 ((w64 (Da - Cz)).tdiv 4)))) (rv_quo (a := (w64 (Da - Cz))) (b := 4) rfl rfl (by decide)) ?_
   refine st (v := (I (w64 ((w64 ((w64 (Da - Cz)).tdiv 4)) * 2)))) (rv_mul (a := (w64 ((w64 (Da - Cz)).tdiv 4))) (b := 2) rfl rfl) (st (v := (I (w64 (Cz + (w64 ((w64 ((w64 (Da - Cz)).tdiv 4)) * 2)))))) (rv_add (a := Cz) (b := (w64 ((w64 ((w64 (Da - Cz)).tdiv 4)) * 2))) rfl rfl) (st (v := (I (w64 ((w64 (Cz + (w64 ((w64 ((w64 (Da - Cz)).tdiv 4)) * 2)))) + 1)))) (rv_add (a := (w64 (Cz + (w64 ((w64 ((w64 (Da - Cz)).tdiv 4)) * 2))))) (b := 1) rfl rfl) (st (v := (B (decide (s10.2.2 ≤ (w64 ((w64 (Cz + (w64 ((w64 ((w64 (Da - Cz)).tdiv 4)) * 2)))) + 1)))))) (rv_leq (a := s10.2.2) (b := (w64 ((w64 (Cz + (w64 ((w64 ((w64 (Da - Cz)).tdiv 4)) * 2)))) + 1))) rfl rfl) (w_end (q_then ?_)))))
   refine cd_cond (decide (s10.2.2 ≤ (w64 ((w64 (Cz + (w64 ((w64 ((w64 (Da - Cz)).tdiv 4)) * 2)))) + 1)))) rfl (fun hb13 => ?_) (fun hb13 => ?_)
   ·replace h := bif_t hb13 h
    refine c_skip (q_then (c_seq (c_blk (c_seq (rg ?_)))))
    revert h; refine br fun r14 hx15 h => ?_
    have hc16 := c_slices_xorshift_Next (Aq := n0) (Ar := b2) (As := 0) (Au := []) (Av := []) hx15
    refine st_call (cx_call hc16 (ent_f hc16.fn rfl) hn0 (H.sel' [0, 1] rfl rfl : Hp S0 σ0 _ ([_] ++ _))) wn ?_
    rintro _ σ17 ⟨_, ⟨rfl, rfl⟩, H, -⟩
    replace H : Hp _ _ _ [_, _] := H
    refine sm (.int .u64 r5) rfl (st (v := (.int .u64 (wk .u64 (r5 - 1)))) (rvk_sub (k := .u64) (a := r5) (b := 1) rfl rfl) (st (v := (.int .u64 (gandk .u64 r14.1 (wk .u64 (r5 - 1))))) (rvk_and (k := .u64) (a := r14.1) (b := (wk .u64 (r5 - 1))) rfl rfl) (st (v := (I (wk .i64 (gandk .u64 r14.1 (wk .u64 (r5 - 1)))))) (rvk_conv (k := .u64) (k' := .i64) (a := (gandk .u64 r14.1 (wk .u64 (r5 - 1)))) Tryz.underlying149 Tryz.underlying3 rfl) (sa (I (wk .i64 (gandk .u64 r14.1 (wk .u64 (r5 - 1))))) rfl (w_end (q_then (c_seq (c_seq (rg (sm (I (wk .i64 (gandk .u64 r14.1 (wk .u64 (r5 - 1))))) rfl (sm (I (w64 (Da - Cz))) rfl ?_)))))))))))
    refine st (v := (B (decide ((w64 (Da - Cz)) ≤ (wk .i64 (gandk .u64 r14.1 (wk .u64 (r5 - 1)))))))) (rv_geq (a := (wk .i64 (gandk .u64 r14.1 (wk .u64 (r5 - 1))))) (b := (w64 (Da - Cz))) rfl rfl) (w_end (q_then ?_))
    obtain ⟨o18, hj, h'⟩ := bind_some h
    clear h
    refine c_cut (fun e a w => e = .normal ∧ ∃ (ρ : Nat → Value) (σ : St), a = fr 67 (updL ρ [(0, (Sl Db s10.1 Dc)), (1, (I Cz)), (8, (I (w64 (Da - Cz)))), (9, (pt b2 0)), (10, (.int .u64 r5)), (11, (I s10.2.2)), (12, (I o18))]) ∧ w = σ.w ∧ Hp S0 σ0 σ [Ch.own 0 0 (Sl Db s10.1 Dc) s10.1, Ch.bx n0 b2 0 [(.int .u64 r14.2)] [] []]) ?_ ?_
    ·clear h'
     rename _ = some o18 => h
     refine cd_cond (decide ((w64 (Da - Cz)) ≤ (wk .i64 (gandk .u64 r14.1 (wk .u64 (r5 - 1)))))) rfl (fun hb19 => ?_) (fun hb19 => ?_)
     ·replace h := bif_t hb19 h
      refine rg (sm (I (wk .i64 (gandk .u64 r14.1 (wk .u64 (r5 - 1))))) rfl (sm (I (w64 (Da - Cz))) rfl (st (v := (I (w64 ((wk .i64 (gandk .u64 r14.1 (wk .u64 (r5 - 1)))) - (w64 (Da - Cz)))))) (rv_sub (a := (wk .i64 (gandk .u64 r14.1 (wk .u64 (r5 - 1))))) (b := (w64 (Da - Cz))) rfl rfl) (sa (I (w64 ((wk .i64 (gandk .u64 r14.1 (wk .u64 (r5 - 1)))) - (w64 (Da - Cz))))) rfl (w_end ?_)))))
      obtain rfl := sj h
      exact ⟨rfl, _, σ17, fr_join ⟨rfl, rfl, rfl, rfl, rfl, rfl, rfl, trivial⟩, rfl, H.sel' [1, 0] rfl rfl⟩
     ·replace h := bif_f hb19 h
      refine c_skip ?_
      obtain rfl := sj h
      exact ⟨rfl, _, σ17, fr_join ⟨rfl, rfl, rfl, rfl, rfl, rfl, rfl, trivial⟩, rfl, H.sel' [1, 0] rfl rfl⟩
    ·clear hj
     have h := h'
     clear h' H
     rintro e a w ⟨rfl, ρ, σ20, rfl, rfl, H⟩
     refine q_then ?_
     revert h; refine br fun x21 hx22 h => ?_
     obtain ⟨b24, o25, hi23, -⟩ := (H.own 0 rfl).ix hx22
     obtain ⟨_, ⟨_, _, rfl, rfl, rfl⟩, hl26, hc27⟩ := ((H.own 0 rfl).at hx22 hi23).cells
     revert h; refine br fun x28 hx29 h => ?_
     obtain ⟨b31, o32, hi30, -⟩ := (H.own 0 rfl).ix hx29
     obtain ⟨_, ⟨_, _, rfl, rfl, rfl⟩, hl33, hc34⟩ := ((H.own 0 rfl).at hx29 hi30).cells
     revert h; refine br fun x35 hx36 h => ?_
     obtain ⟨b38, o39, hi37, -⟩ := (H.own 0 rfl).ix hx36
     have Hs := H
     refine rg2 (σ := σ20) (Nm := Unit) 18 [17] [[false], [true]] [[(0, 0)], [(0, 0)], [(0, 0), (1, 1)], [(0, 0), (1, 1)], [(0, 0), (1, 1)], [(0, 0), (1, 1)], [(0, 0)], [(0, 0)], [(0, 0)], [(0, 0)], [(0, 0)], [(0, 0)], [(0, 0)], [(0, 0)], [(0, 0)], [(0, 0)], [(0, 0)], [(0, 1)]] 1 [fun _ => fun σm => Hp S0 σ0 σm [Ch.own 0 0 (Sl Db s10.1 Dc) s10.1, Ch.bx n0 b2 0 [(.int .u64 r14.2)] [] []] ∧ Md (cov []) σ20 σm, fun _ => fun σm => Hp S0 σ0 σm [Ch.own 0 0 (Sl Db s10.1 Dc) (s10.1.set s10.2.2.toNat (x21.1, x21.2)), Ch.bx n0 b2 0 [(.int .u64 r14.2)] [] []] ∧ Md (fun i => (cov []) i ∨ (fun b => blk (Sl Db s10.1 Dc) = some b) i) σ20 σm] [fun _ => (Sl Db s10.1 Dc), fun _ => (I s10.2.2), fun _ => (Sl Db s10.1 Dc), fun _ => (I Cz), fun _ => (I o18), fun _ => (I (w64 (Cz + o18))), fun _ => (Sl Db s10.1 Dc), fun _ => (I Cz), fun _ => (I o18), fun _ => (I (w64 (Cz + o18))), fun _ => (pt b24 o25), fun _ => (.agg #[(I x21.1), (I x21.2)]), fun _ => (Sl Db s10.1 Dc), fun _ => (I s10.2.2), fun _ => (pt b31 o32), fun _ => (.agg #[(I x28.1), (I x28.2)]), fun _ => (pt b38 o39), fun _ => undef] () (by kernel_rfl) (by kernel_rfl) ?_ ?_ ?_
     ·intro σm m0
      exact ⟨H.grow (m0.mono fun _ h => h.elim), m0⟩
     ·refine ac rfl (by
        intro k _nm ρ σm hJ hoff hdep
        have e0 := look_off (N := 67) (hoff 0 rfl) rfl
        exact dp_v (v := (Sl Db s10.1 Dc)) wn (rv_move e0) rfl hJ) ?_
      refine ac rfl (by
        intro k _nm ρ σm hJ hoff hdep
        have e11 := look_off (N := 67) (hoff 11 rfl) rfl
        exact dp_v (v := (I s10.2.2)) wn (rv_move e11) rfl hJ) ?_
      refine ac rfl (by
        intro k _nm ρ σm hJ hoff hdep
        have e0 := look_off (N := 67) (hoff 0 rfl) rfl
        exact dp_v (v := (Sl Db s10.1 Dc)) wn (rv_move e0) rfl hJ) ?_
      refine ac rfl (by
        intro k _nm ρ σm hJ hoff hdep
        have e1 := look_off (N := 67) (hoff 1 rfl) rfl
        exact dp_v (v := (I Cz)) wn (rv_move e1) rfl hJ) ?_
      refine ac rfl (by
        intro k _nm ρ σm hJ hoff hdep
        have e12 := look_off (N := 67) (hoff 12 rfl) rfl
        exact dp_v (v := (I o18)) wn (rv_move e12) rfl hJ) ?_
      refine ac rfl (by
        intro k _nm ρ σm hJ hoff hdep
        have e52 := hdep 3 rfl rfl 52 rfl
        have e53 := hdep 4 rfl rfl 53 rfl
        exact dp_v (v := (I (w64 (Cz + o18)))) wn (rv_add (a := Cz) (b := o18) e52 e53) rfl hJ) ?_
      refine ac rfl (by
        intro k _nm ρ σm hJ hoff hdep
        have e0 := look_off (N := 67) (hoff 0 rfl) rfl
        exact dp_v (v := (Sl Db s10.1 Dc)) wn (rv_move e0) rfl hJ) ?_
      refine ac rfl (by
        intro k _nm ρ σm hJ hoff hdep
        have e1 := look_off (N := 67) (hoff 1 rfl) rfl
        exact dp_v (v := (I Cz)) wn (rv_move e1) rfl hJ) ?_
      refine ac rfl (by
        intro k _nm ρ σm hJ hoff hdep
        have e12 := look_off (N := 67) (hoff 12 rfl) rfl
        exact dp_v (v := (I o18)) wn (rv_move e12) rfl hJ) ?_
      refine ac rfl (by
        intro k _nm ρ σm hJ hoff hdep
        have e56 := hdep 7 rfl rfl 56 rfl
        have e57 := hdep 8 rfl rfl 57 rfl
        exact dp_v (v := (I (w64 (Cz + o18)))) wn (rv_add (a := Cz) (b := o18) e56 e57) rfl hJ) ?_
      refine ac rfl (by
        intro k _nm ρ σm hJ hoff hdep
        have e55 := hdep 6 rfl rfl 55 rfl
        have e58 := hdep 9 rfl rfl 58 rfl
        exact dp_v (v := (pt b24 o25)) wn (rv_ix Tryz.underlying27 ti38 e55 e58 hi23) rfl hJ) ?_
      refine all_cons (by
        refine ⟨?_, ?_⟩
        ·intro _nm ρ σm hJ hoff hdep
         have e59 := hdep 10 rfl rfl 59 rfl
         obtain ⟨H, m⟩ := id hJ
         obtain ⟨_, ⟨_, _, rfl, rfl, rfl⟩, hl26, hc27⟩ := ((H.own 0 rfl).at hx22 hi23).cells
         exact dp_v (v := (.agg #[(I x21.1), (I x21.2)])) wn (rv_load Tryz.underlying38 rfl ti38 e59 hl26 hc27) rfl hJ
        trivial) ?_
      refine ac rfl (by
        intro k _nm ρ σm hJ hoff hdep
        have e0 := look_off (N := 67) (hoff 0 rfl) rfl
        exact dp_v (v := (Sl Db s10.1 Dc)) wn (rv_move e0) rfl hJ) ?_
      refine ac rfl (by
        intro k _nm ρ σm hJ hoff hdep
        have e11 := look_off (N := 67) (hoff 11 rfl) rfl
        exact dp_v (v := (I s10.2.2)) wn (rv_move e11) rfl hJ) ?_
      refine ac rfl (by
        intro k _nm ρ σm hJ hoff hdep
        have e61 := hdep 12 rfl rfl 61 rfl
        have e62 := hdep 13 rfl rfl 62 rfl
        exact dp_v (v := (pt b31 o32)) wn (rv_ix Tryz.underlying27 ti38 e61 e62 hi30) rfl hJ) ?_
      refine all_cons (by
        refine ⟨?_, ?_⟩
        ·intro _nm ρ σm hJ hoff hdep
         have e63 := hdep 14 rfl rfl 63 rfl
         obtain ⟨H, m⟩ := id hJ
         obtain ⟨_, ⟨_, _, rfl, rfl, rfl⟩, hl33, hc34⟩ := ((H.own 0 rfl).at hx29 hi30).cells
         exact dp_v (v := (.agg #[(I x28.1), (I x28.2)])) wn (rv_load Tryz.underlying38 rfl ti38 e63 hl33 hc34) rfl hJ
        trivial) ?_
      refine ac rfl (by
        intro k _nm ρ σm hJ hoff hdep
        have e49 := hdep 0 rfl rfl 49 rfl
        have e50 := hdep 1 rfl rfl 50 rfl
        exact dp_v (v := (pt b38 o39)) wn (rv_ix Tryz.underlying27 ti38 e49 e50 hi37) rfl hJ) ?_
      refine all_cons (by
        refine ⟨?_, ?_⟩
        ·intro _nm ρ σm hJ hoff hdep
         have e65 := hdep 16 rfl rfl 65 rfl
         have e60 := hdep 11 rfl rfl 60 rfl
         obtain ⟨H, m⟩ := id hJ
         refine dp_exS wn rfl (ex_store_own (e' := (x21.1, x21.2)) (vs := [(I x21.1), (I x21.2)]) (k := 0) H (i := 0) rfl ti38 hx36 hi37 e65 rfl e60 rfl rfl (Nat.le_of_ble_eq_true rfl) (by simp [plain]) (by rintro _ ⟨_, _, rfl, rfl, rfl⟩; exact ⟨[(I x21.1)], [(I x21.2)], rfl, rfl, rfl⟩)) ?_
         rintro σq ⟨H2, m2⟩
         exact ⟨_, (), rfl, ⟨H2.sel' [0, 1] rfl rfl, m.comp m2⟩, stab [0, 1, 2, 3, 4, 5, 6, 7, 8, 9, 10, 11, 12, 13, 14, 15, 16] (by kernel_rfl) ⟨rfl, rfl, rfl, rfl, rfl, rfl, rfl, rfl, rfl, rfl, rfl, rfl, rfl, rfl, rfl, rfl, rfl, trivial⟩⟩
        trivial) ?_
      exact all_nil
     ·intro _nm ρ σ40 hJ hoff hrel
      have e0 := look_off (N := 67) (hoff 0 rfl) rfl
      have e1 := look_off (N := 67) (hoff 1 rfl) rfl
      have e8 := look_off (N := 67) (hoff 8 rfl) rfl
      have e9 := look_off (N := 67) (hoff 9 rfl) rfl
      have e10 := look_off (N := 67) (hoff 10 rfl) rfl
      have e11 := look_off (N := 67) (hoff 11 rfl) rfl
      have e51 := hrel 2 rfl 51 rfl
      have e54 := hrel 5 rfl 54 rfl
      have e64 := hrel 15 rfl 64 rfl
      obtain ⟨H, -⟩ := (show Hp S0 σ0 σ40 [Ch.own 0 0 (Sl Db s10.1 Dc) (s10.1.set s10.2.2.toNat (x21.1, x21.2)), Ch.bx n0 b2 0 [(.int .u64 r14.2)] [] []] ∧ Md (fun i => (cov []) i ∨ (fun b => blk (Sl Db s10.1 Dc) = some b) i) σ20 σ40 from hJ)
      clear hJ Hs
      rw [fr_lookL (L := [(0, (Sl Db s10.1 Dc)), (1, (I Cz)), (8, (I (w64 (Da - Cz)))), (9, (pt b2 0)), (10, (.int .u64 r5)), (11, (I s10.2.2)), (51, (Sl Db s10.1 Dc)), (54, (I (w64 (Cz + o18)))), (64, (.agg #[(I x28.1), (I x28.2)]))]) ⟨e0, e1, e8, e9, e10, e11, e51, e54, e64, trivial⟩]
      clear hoff hrel e0 e1 e8 e9 e10 e11 e51 e54 e64
      have hsl : (Sl Db s10.1 Dc) = (Sl Db (s10.1.set s10.2.2.toNat (x21.1, x21.2)) Dc) := sl_len (by simp)
      rw [hsl]; rw [hsl] at H; clear hsl
      revert h; refine br fun x41 hx42 h => ?_
      obtain ⟨b44, o45, hi43, -⟩ := (H.own 0 rfl).ix hx42
      refine st (v := (pt b44 o45)) (rv_ix Tryz.underlying27 ti38 rfl rfl hi43) ?_
      refine st_exS (ex_store_own (e' := (x28.1, x28.2)) (vs := [(I x28.1), (I x28.2)]) (k := 0) H (i := 0) rfl ti38 hx42 hi43 rfl rfl rfl rfl rfl (Nat.le_of_ble_eq_true rfl) (by simp [plain]) (by rintro _ ⟨_, _, rfl, rfl, rfl⟩; exact ⟨[(I x28.1)], [(I x28.2)], rfl, rfl, rfl⟩)) wn ?_
      rintro σ46 ⟨H, -⟩
      have hsl : (Sl Db (s10.1.set s10.2.2.toNat (x21.1, x21.2)) Dc) = (Sl Db ((s10.1.set s10.2.2.toNat (x21.1, x21.2)).set (w64 (Cz + o18)).toNat (x28.1, x28.2)) Dc) := sl_len List.length_set.symm
      rw [hsl]; rw [hsl] at H; clear hsl
      refine w_end (q_blk (q_then (rg (sm (I s10.2.2) rfl (st (v := (I (w64 (s10.2.2 + 1)))) (rv_add (a := s10.2.2) (b := 1) rfl rfl) (sa (I (w64 (s10.2.2 + 1))) rfl (w_end (q_then ?_))))))))
      obtain rfl := sj h
      exact ⟨_, rfl, _, σ46, fr_join ⟨rfl, rfl, rfl, rfl, rfl, rfl, trivial⟩, rfl, H.sel' [1, 0] rfl rfl, (List.length_set.trans (List.length_set.trans hn12))⟩
   ·replace h := bif_f hb13 h
    refine c_exit (q_then_x (q_then_x (q_blk_hit ?_)))
    obtain rfl := sj h
    obtain rfl := hres _ rfl
    exact ⟨rfl, _, σ11, fr_join ⟨rfl, trivial⟩, rfl, H.sel' [1] rfl rfl, hn12⟩
  ·clear hj
   have h := h'
   clear h' H
   rintro e a w ⟨rfl, ρ, σ47, rfl, rfl, H, hn48⟩
   obtain rfl := sj h
   exact fin_end (v := (.tuple #[])) (results_ok Tryz.results140 res_nil rfl) ⟨rfl, rfl, hn48⟩ (H.sel' [0] rfl rfl)
 ·replace h := bif_f hb1 h
  refine c_skip ?_
  obtain rfl := sj h
  exact fin_end (v := (.tuple #[])) (results_ok Tryz.results140 res_nil rfl) ⟨rfl, rfl, rfl⟩ (H.sel' [0] rfl rfl)

theorem c_slices_order2CmpFunc_impl_Hit__impl_compareHits {Cy : List (Int × Int)} {Cz : Int} {Da : Int} {Dh : Int} {Db : Option Addr} {Dc : Nat} {Di Dj Dk : Nat} {Dm Dn : List Value} {r : Int × Int × Int} (h : M.slices_order2CmpFunc_impl_Hit__impl_compareHits Cy Cz Da Dh = some r) :
    Cal2 Tryz.prog 159 [(Sl Db Cy Dc), (I Cz), (I Da), (pt Dj Dk), (.func (.func 72) #[] #[])] [Ch.ro 0 (Sl Db Cy Dc) Cy, Ch.bx Di Dj Dk [(I Dh)] Dm Dn] (fun n0 v L => v = (.tuple #[(I r.1), (I r.2.1)]) ∧ L = [Ch.bx Di Dj Dk [(I r.2.2)] Dm Dn]) := by
 refine cal2 (n := 32) Tryz.func159 rfl rfl rfl rfl ?_
 intro S0 σ0 n0 hn0 H
 unfold M.slices_order2CmpFunc_impl_Hit__impl_compareHits at h
 refine c_seq (rg (sa (I 0) rfl (sa (I 0) rfl (w_end (q_then (c_seq (c_seq ?_)))))))
 refine rgP (σ := σ0) 9 (by kernel_rfl) (by kernel_rfl) (by kernel_rfl) ?_
 refine sq (v := (.func (.func 72) #[] #[])) (rv_move rfl) (sq (v := (Sl Db Cy Dc)) (rv_move rfl) (sq (v := (I Da)) (rv_move rfl) ?_))
 revert h; refine br fun x1 hx2 h => ?_
 obtain ⟨b4, o5, hi3, -⟩ := (H.ro 0 rfl).ix hx2
 refine sq (v := (pt b4 o5)) (rv_ix Tryz.underlying27 ti38 rfl rfl hi3) ?_
 obtain ⟨_, ⟨_, _, rfl, rfl, rfl⟩, hl6, hc7⟩ := ((H.ro 0 rfl).at hx2 hi3).cells
 refine sq (v := (.agg #[(I x1.1), (I x1.2)])) (rv_load Tryz.underlying38 rfl ti38 rfl hl6 hc7) (sq (v := (Sl Db Cy Dc)) (rv_move rfl) (sq (v := (I Cz)) (rv_move rfl) ?_))
 revert h; refine br fun x8 hx9 h => ?_
 obtain ⟨b11, o12, hi10, -⟩ := (H.ro 0 rfl).ix hx9
 refine sq (v := (pt b11 o12)) (rv_ix Tryz.underlying27 ti38 rfl rfl hi10) ?_
 obtain ⟨_, ⟨_, _, rfl, rfl, rfl⟩, hl13, hc14⟩ := ((H.ro 0 rfl).at hx9 hi10).cells
 refine sq (v := (.agg #[(I x8.1), (I x8.2)])) (rv_load Tryz.underlying38 rfl ti38 rfl hl13 hc14) (sq_end ?_)
 intro σ15 hm16
 replace H := H.grow (hm16.mono fun _ h => h); clear hm16
 revert h; refine br fun r17 hx18 h => ?_
 have hc19 := c_impl_compareHits hx18
 refine st_call (cx_call hc19 (ent_v (cap := []) hc19.fn rfl rfl) hn0 (H.sel' [0, 1] rfl rfl : Hp S0 σ0 _ ([] ++ _))) wn ?_
 rintro _ σ20 ⟨_, ⟨rfl, rfl⟩, H, -⟩
 replace H : Hp _ _ _ [_, _] := H
 refine st (v := (B (decide (r17 < 0)))) (rv_lss (a := r17) (b := 0) rfl rfl) (w_end (q_then ?_))
 refine cd_cond (decide (r17 < 0)) rfl (fun hb21 => ?_) (fun hb21 => ?_)
 ·replace h := bif_t hb21 h
  refine c_seq (rg (sm (pt Dj Dk) rfl (st (v := (pt Dj Dk)) (rv_nilCheck rfl) ?_)))
  have hc22 := H.cell (u := (I Dh)) (o' := Dk) 1 0 rfl rfl rfl
  refine st (v := (I Dh)) (rv_load1 Tryz.underlying3 rfl rfl hc22) (st (v := (I (w64 (Dh + 1)))) (rv_add (a := Dh) (b := 1) rfl rfl) (st (v := (pt Dj Dk)) (rv_nilCheck rfl) ?_))
  refine st_exS (ex_store_box (k := 0) (cs := [(I Dh)]) (vs := [(I (w64 (Dh + 1)))]) (cs' := [(I (w64 (Dh + 1)))]) H (i := 1) rfl ti3 rfl rfl rfl rfl rfl (Nat.le_of_ble_eq_true rfl) (by simp [plain]) rfl) wn ?_
  rintro σ23 ⟨H, -⟩
  refine w_end (q_then (c_seq (rg (sm (I Da) rfl (sm (I Cz) rfl (sa (I Da) rfl (sa (I Cz) rfl (w_end (q_then (c_ret (q_then_r ?_)))))))))))
  obtain rfl := sj h
  exact fin_ret (v := (.tuple #[(I Da), (I Cz)])) (results_ok Tryz.results159 (res_tmp (v := (I Da)) rfl (res_tmp (v := (I Cz)) rfl res_nil)) rfl) ⟨rfl, rfl⟩ (H.sel' [0] rfl rfl)
 ·replace h := bif_f hb21 h
  refine c_skip (q_then (c_seq (rg (sm (I Cz) rfl (sm (I Da) rfl (sa (I Cz) rfl (sa (I Da) rfl (w_end (q_then (c_ret ?_))))))))))
  obtain rfl := sj h
  exact fin_ret (v := (.tuple #[(I Cz), (I Da)])) (results_ok Tryz.results159 (res_tmp (v := (I Cz)) rfl (res_tmp (v := (I Da)) rfl res_nil)) rfl) ⟨rfl, rfl⟩ (H.sel' [1] rfl rfl)

theorem c_slices_medianCmpFunc_impl_Hit__impl_compareHits {Cy : List (Int × Int)} {Cz : Int} {Da : Int} {Do : Int} {Dq : Int} {Db : Option Addr} {Dc : Nat} {Dr Ds Dt : Nat} {Du Dv : List Value} {r : Int × Int} (h : M.slices_medianCmpFunc_impl_Hit__impl_compareHits Cy Cz Da Do Dq = some r) :
    Cal2 Tryz.prog 156 [(Sl Db Cy Dc), (I Cz), (I Da), (I Do), (pt Ds Dt), (.func (.func 72) #[] #[])] [Ch.ro 0 (Sl Db Cy Dc) Cy, Ch.bx Dr Ds Dt [(I Dq)] Du Dv] (fun n0 v L => v = (I r.1) ∧ L = [Ch.bx Dr Ds Dt [(I r.2)] Du Dv]) := by
 refine cal2 (n := 41) Tryz.func156 rfl rfl rfl rfl ?_
 intro S0 σ0 n0 hn0 H
 unfold M.slices_medianCmpFunc_impl_Hit__impl_compareHits at h
 refine c_seq (rg (sa (I 0) rfl (w_end (q_then (c_seq (rg (sm (Sl Db Cy Dc) rfl (sm (I Cz) rfl (sm (I Da) rfl (sm (pt Ds Dt) rfl (sm (.func (.func 72) #[] #[]) rfl ?_)))))))))))
 revert h; refine br fun r1 hx2 h => ?_
 have hc3 := c_slices_order2CmpFunc_impl_Hit__impl_compareHits (Db := Db) (Dc := Dc) (Di := Dr) (Dj := Ds) (Dk := Dt) (Dm := Du) (Dn := Dv) hx2
 refine st_call (cx_call hc3 (ent_f hc3.fn rfl) hn0 (H.sel' [0, 1, 0] rfl rfl : Hp S0 σ0 _ ([_, _] ++ _))) wn ?_
 rintro _ σ4 ⟨_, ⟨rfl, rfl⟩, H, -⟩
 replace H : Hp _ _ _ [_, _] := H
 refine sm (.tuple #[(I r1.1), (I r1.2.1)]) rfl (st (v := (I r1.1)) (rv_extract rfl rfl) (st (v := (I r1.2.1)) (rv_extract rfl rfl) (sa (I r1.1) rfl (sa (I r1.2.1) rfl (w_end (q_then (c_seq (rg (sm (Sl Db Cy Dc) rfl (sm (I r1.2.1) rfl (sm (I Do) rfl ?_)))))))))))
 refine sm (pt Ds Dt) rfl (sm (.func (.func 72) #[] #[]) rfl ?_)
 revert h; refine br fun r5 hx6 h => ?_
 have hc7 := c_slices_order2CmpFunc_impl_Hit__impl_compareHits (Db := Db) (Dc := Dc) (Di := Dr) (Dj := Ds) (Dk := Dt) (Dm := Du) (Dn := Dv) hx6
 refine st_call (cx_call hc7 (ent_f hc7.fn rfl) hn0 (H.sel' [1, 0, 1] rfl rfl : Hp S0 σ0 _ ([_, _] ++ _))) wn ?_
 rintro _ σ8 ⟨_, ⟨rfl, rfl⟩, H, -⟩
 replace H : Hp _ _ _ [_, _] := H
 refine sm (.tuple #[(I r5.1), (I r5.2.1)]) rfl (st (v := (I r5.1)) (rv_extract rfl rfl) (st (v := (I r5.2.1)) (rv_extract rfl rfl) (sa (I r5.1) rfl (sa (I r5.2.1) rfl (w_end (q_then (c_seq (rg (sm (Sl Db Cy Dc) rfl (sm (I r1.1) rfl (sm (I r5.1) rfl ?_)))))))))))
 refine sm (pt Ds Dt) rfl (sm (.func (.func 72) #[] #[]) rfl ?_)
 revert h; refine br fun r9 hx10 h => ?_
 have hc11 := c_slices_order2CmpFunc_impl_Hit__impl_compareHits (Db := Db) (Dc := Dc) (Di := Dr) (Dj := Ds) (Dk := Dt) (Dm := Du) (Dn := Dv) hx10
 refine st_call (cx_call hc11 (ent_f hc11.fn rfl) hn0 (H.sel' [1, 0, 1] rfl rfl : Hp S0 σ0 _ ([_, _] ++ _))) wn ?_
 rintro _ σ12 ⟨_, ⟨rfl, rfl⟩, H, -⟩
 replace H : Hp _ _ _ [_, _] := H
 refine sm (.tuple #[(I r9.1), (I r9.2.1)]) rfl (st (v := (I r9.1)) (rv_extract rfl rfl) (st (v := (I r9.2.1)) (rv_extract rfl rfl) (sa (I r9.1) rfl (sa (I r9.2.1) rfl (w_end (q_then (c_seq (rg (sm (I r9.2.1) rfl (sa (I r9.2.1) rfl (w_end ?_)))))))))))
 refine q_then (c_ret ?_)
 obtain rfl := sj h
 exact fin_ret (v := (I r9.2.1)) (results_ok Tryz.results156 (res_tmp (v := (I r9.2.1)) rfl res_nil) rfl) ⟨rfl, rfl⟩ (H.sel' [0] rfl rfl)

theorem c_slices_medianAdjacentCmpFunc_impl_Hit__impl_compareHits {Cy : List (Int × Int)} {Cz : Int} {Dw : Int} {Db : Option Addr} {Dc : Nat} {Dx Dy Dz : Nat} {Ea Eb : List Value} {r : Int × Int} (h : M.slices_medianAdjacentCmpFunc_impl_Hit__impl_compareHits Cy Cz Dw = some r) :
    Cal2 Tryz.prog 155 [(Sl Db Cy Dc), (I Cz), (pt Dy Dz), (.func (.func 72) #[] #[])] [Ch.ro 0 (Sl Db Cy Dc) Cy, Ch.bx Dx Dy Dz [(I Dw)] Ea Eb] (fun n0 v L => v = (I r.1) ∧ L = [Ch.bx Dx Dy Dz [(I r.2)] Ea Eb]) := by
 refine cal2 (n := 18) Tryz.func155 rfl rfl rfl rfl ?_
 intro S0 σ0 n0 hn0 H
 unfold M.slices_medianAdjacentCmpFunc_impl_Hit__impl_compareHits at h
 refine c_seq (rg (sa (I 0) rfl (w_end (q_then (c_seq (rg (sm (Sl Db Cy Dc) rfl (sm (I Cz) rfl (st (v := (I (w64 (Cz - 1)))) (rv_sub (a := Cz) (b := 1) rfl rfl) (sm (I Cz) rfl (sm (I Cz) rfl ?_)))))))))))
 refine st (v := (I (w64 (Cz + 1)))) (rv_add (a := Cz) (b := 1) rfl rfl) (sm (pt Dy Dz) rfl (sm (.func (.func 72) #[] #[]) rfl ?_))
 revert h; refine br fun r1 hx2 h => ?_
 have hc3 := c_slices_medianCmpFunc_impl_Hit__impl_compareHits (Db := Db) (Dc := Dc) (Dr := Dx) (Ds := Dy) (Dt := Dz) (Du := Ea) (Dv := Eb) hx2
 refine st_call (cx_call hc3 (ent_f hc3.fn rfl) hn0 (H.sel' [0, 1, 0] rfl rfl : Hp S0 σ0 _ ([_, _] ++ _))) wn ?_
 rintro _ σ4 ⟨_, ⟨rfl, rfl⟩, H, -⟩
 replace H : Hp _ _ _ [_, _] := H
 refine sa (I r1.1) rfl (w_end (q_then (c_ret ?_)))
 obtain rfl := sj h
 exact fin_ret (v := (I r1.1)) (results_ok Tryz.results155 (res_tmp (v := (I r1.1)) rfl res_nil) rfl) ⟨rfl, rfl⟩ (H.sel' [0] rfl rfl)

theorem c_slices_choosePivotCmpFunc_impl_Hit__impl_compareHits {Cy : List (Int × Int)} {Cz : Int} {Da : Int} {Db : Option Addr} {Dc : Nat} {r : Int × Int} (h : M.slices_choosePivotCmpFunc_impl_Hit__impl_compareHits Cy Cz Da = some r) :
    Cal2 Tryz.prog 141 [(Sl Db Cy Dc), (I Cz), (I Da), (.func (.func 72) #[] #[])] [Ch.ro 0 (Sl Db Cy Dc) Cy] (fun n0 v L => v = (.tuple #[(I r.1), (I r.2)]) ∧ L = []) := by
 refine cal2 (n := 63) Tryz.func141 rfl rfl rfl rfl ?_
 intro S0 σ0 n0 hn0 H
 unfold M.slices_choosePivotCmpFunc_impl_Hit__impl_compareHits at h
 refine c_seq (rg (sa (I 0) rfl (sa (I 0) rfl (w_end (q_then (c_seq (rg (sm (I Da) rfl (sm (I Cz) rfl (st (v := (I (w64 (Da - Cz)))) (rv_sub (a := Da) (b := Cz) rfl rfl) (sa (I (w64 (Da - Cz))) rfl ?_)))))))))))
 refine w_end (q_then (c_seq (rg (st_ex (ex_alloc (cs := [(I 0)]) H hn0 ti3 rfl) wn ?_))))
 rintro _ σ2 ⟨b1, rfl, H, -⟩
 refine w_end (q_then (c_seq (rg (sm (I Cz) rfl (sm (I (w64 (Da - Cz))) rfl ?_)))))
 refine st (v := (I (w64 ((w64 (Da - Cz)).tdiv 4)))) (rv_quo (a := (w64 (Da - Cz))) (b := 4) rfl rfl (by decide)) ?_
 refine st (v := (I (w64 ((w64 ((w64 (Da - Cz)).tdiv 4)) * 1)))) (rv_mul (a := (w64 ((w64 (Da - Cz)).tdiv 4))) (b := 1) rfl rfl) (st (v := (I (w64 (Cz + (w64 ((w64 ((w64 (Da - Cz)).tdiv 4)) * 1)))))) (rv_add (a := Cz) (b := (w64 ((w64 ((w64 (Da - Cz)).tdiv 4)) * 1))) rfl rfl) (sa (I (w64 (Cz + (w64 ((w64 ((w64 (Da - Cz)).tdiv 4)) * 1))))) rfl (w_end (q_then (c_seq (rg (sm (I Cz) rfl (sm (I (w64 (Da - Cz))) rfl ?_))))))))
 refine st (v := (I (w64 ((w64 (Da - Cz)).tdiv 4)))) (rv_quo (a := (w64 (Da - Cz))) (b := 4) rfl rfl (by decide)) ?_
 refine st (v := (I (w64 ((w64 ((w64 (Da - Cz)).tdiv 4)) * 2)))) (rv_mul (a := (w64 ((w64 (Da - Cz)).tdiv 4))) (b := 2) rfl rfl) (st (v := (I (w64 (Cz + (w64 ((w64 ((w64 (Da - Cz)).tdiv 4)) * 2)))))) (rv_add (a := Cz) (b := (w64 ((w64 ((w64 (Da - Cz)).tdiv 4)) * 2))) rfl rfl) (sa (I (w64 (Cz + (w64 ((w64 ((w64 (Da - Cz)).tdiv 4)) * 2))))) rfl (w_end (q_then (c_seq (rg (sm (I Cz) rfl (sm (I (w64 (Da - Cz))) rfl ?_))))))))
 refine st (v := (I (w64 ((w64 (Da - Cz)).tdiv 4)))) (rv_quo (a := (w64 (Da - Cz))) (b := 4) rfl rfl (by decide)) ?_
 refine st (v := (I (w64 ((w64 ((w64 (Da - Cz)).tdiv 4)) * 3)))) (rv_mul (a := (w64 ((w64 (Da - Cz)).tdiv 4))) (b := 3) rfl rfl) (st (v := (I (w64 (Cz + (w64 ((w64 ((w64 (Da - Cz)).tdiv 4)) * 3)))))) (rv_add (a := Cz) (b := (w64 ((w64 ((w64 (Da - Cz)).tdiv 4)) * 3))) rfl rfl) (sa (I (w64 (Cz + (w64 ((w64 ((w64 (Da - Cz)).tdiv 4)) * 3))))) rfl (w_end (q_then (c_seq (c_seq (rg (sm (I (w64 (Da - Cz))) rfl (st (v := (B (decide (8 ≤ (w64 (Da - Cz)))))) (rv_geq (a := (w64 (Da - Cz))) (b := 8) rfl rfl) (w_end (q_then ?_)))))))))))
 obtain ⟨o3, hj, h'⟩ := bind_some h
 clear h
 refine c_cut (fun e a w => e = .normal ∧ ∃ (ρ : Nat → Value) (σ : St), a = fr 63 (updL ρ [(11, (pt b1 0)), (13, (I o3.2))]) ∧ w = σ.w ∧ Hp S0 σ0 σ [Ch.bx n0 b1 0 [(I o3.1)] [] []]) ?_ ?_
 ·clear h'
  rename _ = some o3 => h
  refine cd_cond (decide (8 ≤ (w64 (Da - Cz)))) rfl (fun hb4 => ?_) (fun hb4 => ?_)
  ·replace h := bif_t hb4 h
   refine c_seq (c_seq (rg (sm (I (w64 (Da - Cz))) rfl (st (v := (B (decide (50 ≤ (w64 (Da - Cz)))))) (rv_geq (a := (w64 (Da - Cz))) (b := 50) rfl rfl) (w_end (q_then ?_))))))
   obtain ⟨o5, hj, h'⟩ := bind_some h
   clear h
   refine c_cut (fun e a w => e = .normal ∧ ∃ (ρ : Nat → Value) (σ : St), a = fr 63 (updL ρ [(0, (Sl Db Cy Dc)), (3, (.func (.func 72) #[] #[])), (11, (pt b1 0)), (12, (I o5.2.1)), (13, (I o5.2.2.1)), (14, (I o5.2.2.2))]) ∧ w = σ.w ∧ Hp S0 σ0 σ [Ch.bx n0 b1 0 [(I o5.1)] [] [], Ch.ro 0 (Sl Db Cy Dc) Cy]) ?_ ?_
   ·clear h'
    rename _ = some o5 => h
    refine cd_cond (decide (50 ≤ (w64 (Da - Cz)))) rfl (fun hb6 => ?_) (fun hb6 => ?_)
    ·replace h := bif_t hb6 h
     refine c_seq (rg (sm (Sl Db Cy Dc) rfl (sm (I (w64 (Cz + (w64 ((w64 ((w64 (Da - Cz)).tdiv 4)) * 1))))) rfl (sm (.func (.func 72) #[] #[]) rfl ?_))))
     revert h; refine br fun r7 hx8 h => ?_
     have hc9 := c_slices_medianAdjacentCmpFunc_impl_Hit__impl_compareHits (Db := Db) (Dc := Dc) (Dx := n0) (Dy := b1) (Dz := 0) (Ea := []) (Eb := []) hx8
     refine st_call (cx_call hc9 (ent_f hc9.fn rfl) hn0 (H.sel' [1, 0, 1] rfl rfl : Hp S0 σ0 _ ([_, _] ++ _))) wn ?_
     rintro _ σ10 ⟨_, ⟨rfl, rfl⟩, H, -⟩
     replace H : Hp _ _ _ [_, _] := H
     refine sa (I r7.1) rfl (w_end (q_then (c_seq (rg (sm (Sl Db Cy Dc) rfl (sm (I (w64 (Cz + (w64 ((w64 ((w64 (Da - Cz)).tdiv 4)) * 2))))) rfl (sm (.func (.func 72) #[] #[]) rfl ?_)))))))
     revert h; refine br fun r11 hx12 h => ?_
     have hc13 := c_slices_medianAdjacentCmpFunc_impl_Hit__impl_compareHits (Db := Db) (Dc := Dc) (Dx := n0) (Dy := b1) (Dz := 0) (Ea := []) (Eb := []) hx12
     refine st_call (cx_call hc13 (ent_f hc13.fn rfl) hn0 (H.sel' [1, 0, 1] rfl rfl : Hp S0 σ0 _ ([_, _] ++ _))) wn ?_
     rintro _ σ14 ⟨_, ⟨rfl, rfl⟩, H, -⟩
     replace H : Hp _ _ _ [_, _] := H
     refine sa (I r11.1) rfl (w_end (q_then (rg (sm (Sl Db Cy Dc) rfl (sm (I (w64 (Cz + (w64 ((w64 ((w64 (Da - Cz)).tdiv 4)) * 3))))) rfl (sm (.func (.func 72) #[] #[]) rfl ?_))))))
     revert h; refine br fun r15 hx16 h => ?_
     have hc17 := c_slices_medianAdjacentCmpFunc_impl_Hit__impl_compareHits (Db := Db) (Dc := Dc) (Dx := n0) (Dy := b1) (Dz := 0) (Ea := []) (Eb := []) hx16
     refine st_call (cx_call hc17 (ent_f hc17.fn rfl) hn0 (H.sel' [1, 0, 1] rfl rfl : Hp S0 σ0 _ ([_, _] ++ _))) wn ?_
     rintro _ σ18 ⟨_, ⟨rfl, rfl⟩, H, -⟩
     replace H : Hp _ _ _ [_, _] := H
     refine sa (I r15.1) rfl (w_end ?_)
     obtain rfl := sj h
     exact ⟨rfl, _, σ18, fr_join ⟨rfl, rfl, rfl, rfl, rfl, rfl, trivial⟩, rfl, H.sel' [0, 1] rfl rfl⟩
    ·replace h := bif_f hb6 h
     refine c_skip ?_
     obtain rfl := sj h
     exact ⟨rfl, _, σ2, fr_join ⟨rfl, rfl, rfl, rfl, rfl, rfl, trivial⟩, rfl, H.sel' [0, 1] rfl rfl⟩
   ·clear hj
    have h := h'
    clear h' H
    rintro e a w ⟨rfl, ρ, σ19, rfl, rfl, H⟩
    refine q_then (rg (sm (Sl Db Cy Dc) rfl (sm (I o5.2.1) rfl (sm (I o5.2.2.1) rfl (sm (I o5.2.2.2) rfl (sm (.func (.func 72) #[] #[]) rfl ?_))))))
    revert h; refine br fun r20 hx21 h => ?_
    have hc22 := c_slices_medianCmpFunc_impl_Hit__impl_compareHits (Db := Db) (Dc := Dc) (Dr := n0) (Ds := b1) (Dt := 0) (Du := []) (Dv := []) hx21
    refine st_call (cx_call hc22 (ent_f hc22.fn rfl) hn0 (H.sel' [1, 0, 1] rfl rfl : Hp S0 σ0 _ ([_, _] ++ _))) wn ?_
    rintro _ σ23 ⟨_, ⟨rfl, rfl⟩, H, -⟩
    replace H : Hp _ _ _ [_, _] := H
    refine sa (I r20.1) rfl (w_end ?_)
    obtain rfl := sj h
    exact ⟨rfl, _, σ23, fr_join ⟨rfl, rfl, trivial⟩, rfl, H.sel' [0] rfl rfl⟩
  ·replace h := bif_f hb4 h
   refine c_skip ?_
   obtain rfl := sj h
   exact ⟨rfl, _, σ2, fr_join ⟨rfl, rfl, trivial⟩, rfl, H.sel' [0] rfl rfl⟩
 ·clear hj
  have h := h'
  clear h' H
  rintro e a w ⟨rfl, ρ, σ24, rfl, rfl, H⟩
  refine q_then (c_seq (rg ?_))
  have hc25 := H.cell (u := (I o3.1)) (o' := 0) 0 0 rfl rfl rfl
  refine st (v := (I o3.1)) (rv_load1 Tryz.underlying3 rfl rfl hc25) (w_end (q_then (c_blk (c_seq (rg (st (v := (B (o3.1 == 0))) (rv_eql (a := o3.1) (b := 0) rfl rfl) (sa (B (o3.1 == 0)) rfl (w_end (q_then ?_)))))))))
  refine cd_cond (o3.1 == 0) rfl (fun hb26 => ?_) (fun hb26 => ?_)
  ·replace h := bif_t hb26 h
   refine c_seq (rg (sm (I o3.2) rfl (sa (I o3.2) rfl (sa (I 1) rfl (w_end (q_then (c_ret (q_blk_r ?_))))))))
   obtain rfl := sj h
   exact fin_ret (v := (.tuple #[(I o3.2), (I 1)])) (results_ok Tryz.results141 (res_tmp (v := (I o3.2)) rfl (res_tmp (v := (I 1)) rfl res_nil)) rfl) ⟨rfl, rfl⟩ (H.sel' [] rfl rfl)
  ·replace h := bif_f hb26 h
   refine c_seq (rg (st (v := (B (o3.1 == 12))) (rv_eql (a := o3.1) (b := 12) rfl rfl) (sa (B (o3.1 == 12)) rfl (w_end (q_then ?_)))))
   refine cd_cond (o3.1 == 12) rfl (fun hb27 => ?_) (fun hb27 => ?_)
   ·replace h := bif_t hb27 h
    refine c_seq (rg (sm (I o3.2) rfl (sa (I o3.2) rfl (sa (I 2) rfl (w_end (q_then (c_ret (q_blk_r ?_))))))))
    obtain rfl := sj h
    exact fin_ret (v := (.tuple #[(I o3.2), (I 2)])) (results_ok Tryz.results141 (res_tmp (v := (I o3.2)) rfl (res_tmp (v := (I 2)) rfl res_nil)) rfl) ⟨rfl, rfl⟩ (H.sel' [] rfl rfl)
   ·replace h := bif_f hb27 h
    refine c_seq (rg (sm (I o3.2) rfl (sa (I o3.2) rfl (sa (I 0) rfl (w_end (q_then (c_ret (q_blk_r ?_))))))))
    obtain rfl := sj h
    exact fin_ret (v := (.tuple #[(I o3.2), (I 0)])) (results_ok Tryz.results141 (res_tmp (v := (I o3.2)) rfl (res_tmp (v := (I 0)) rfl res_nil)) rfl) ⟨rfl, rfl⟩ (H.sel' [] rfl rfl)

theorem c_slices_reverseRangeCmpFunc_impl_Hit__impl_compareHits {Cy : List (Int × Int)} {Cz : Int} {Da : Int} {Db : Option Addr} {Dc : Nat} {r : (List (Int × Int))} (h : M.slices_reverseRangeCmpFunc_impl_Hit__impl_compareHits Cy Cz Da = some r) :
    Cal2 Tryz.prog 142 [(Sl Db Cy Dc), (I Cz), (I Da), (.func (.func 72) #[] #[])] [Ch.own 0 0 (Sl Db Cy Dc) Cy] (fun n0 v L => v = (.tuple #[]) ∧ L = [Ch.own 0 0 (Sl Db r Dc) r] ∧ r.length = Cy.length) := by
 refine cal2 (n := 34) Tryz.func142 rfl rfl rfl rfl ?_
 intro S0 σ0 n0 hn0 H
 unfold M.slices_reverseRangeCmpFunc_impl_Hit__impl_compareHits at h
 refine c_seq (rg (sm (I Cz) rfl (sa (I Cz) rfl (w_end (q_then (c_seq (rg (sm (I Da) rfl (st (v := (I (w64 (Da - 1)))) (rv_sub (a := Da) (b := 1) rfl rfl) (sa (I (w64 (Da - 1))) rfl (w_end ?_)))))))))))
 refine q_then ?_
 obtain ⟨o1, hj, h'⟩ := bind_some h
 clear h
 refine c_cut (fun e a w => e = .normal ∧ ∃ (ρ : Nat → Value) (σ : St), a = fr 34 (updL ρ [(0, (Sl Db o1 Dc))]) ∧ w = σ.w ∧ Hp S0 σ0 σ [Ch.own 0 0 (Sl Db o1 Dc) o1] ∧ o1.length = Cy.length) ?_ ?_
 ·clear h'
  rename _ = some o1 => h
  refine c_blk (wp_loopM _ h (fun s2 a w => ∃ (ρ : Nat → Value) (σ : St), a = fr 34 (updL ρ [(0, (Sl Db s2.1 Dc)), (8, (I s2.2.1)), (9, (I s2.2.2))]) ∧ w = σ.w ∧ Hp S0 σ0 σ [Ch.own 0 0 (Sl Db s2.1 Dc) s2.1] ∧ s2.1.length = Cy.length) ⟨_, σ0, fr_join ⟨rfl, rfl, rfl, trivial⟩, rfl, H.sel' [0] rfl rfl, rfl⟩ ?_)
  clear h H
  rintro s2 a w o ⟨ρ, σ3, rfl, rfl, H, hn4⟩ h hres
  refine c_seq (c_seq (rg (sm (I s2.2.1) rfl (sm (I s2.2.2) rfl (st (v := (B (decide (s2.2.1 < s2.2.2)))) (rv_lss (a := s2.2.1) (b := s2.2.2) rfl rfl) (w_end (q_then ?_)))))))
  refine cd_cond (decide (s2.2.1 < s2.2.2)) rfl (fun hb5 => ?_) (fun hb5 => ?_)
  ·replace h := bif_t hb5 h
   refine c_skip (q_then (c_blk (c_seq ?_)))
   revert h; refine br fun x6 hx7 h => ?_
   obtain ⟨b9, o10, hi8, -⟩ := (H.own 0 rfl).ix hx7
   obtain ⟨_, ⟨_, _, rfl, rfl, rfl⟩, hl11, hc12⟩ := ((H.own 0 rfl).at hx7 hi8).cells
   revert h; refine br fun x13 hx14 h => ?_
   obtain ⟨b16, o17, hi15, -⟩ := (H.own 0 rfl).ix hx14
   obtain ⟨_, ⟨_, _, rfl, rfl, rfl⟩, hl18, hc19⟩ := ((H.own 0 rfl).at hx14 hi15).cells
   revert h; refine br fun x20 hx21 h => ?_
   obtain ⟨b23, o24, hi22, -⟩ := (H.own 0 rfl).ix hx21
   have Hs := H
   refine rg2 (σ := σ3) (Nm := Unit) 14 [13] [[false], [true]] [[(0, 0)], [(0, 0)], [(0, 0), (1, 1)], [(0, 0), (1, 1)], [(0, 0)], [(0, 0)], [(0, 0)], [(0, 0)], [(0, 0)], [(0, 0)], [(0, 0)], [(0, 0)], [(0, 0)], [(0, 1)]] 1 [fun _ => fun σm => Hp S0 σ0 σm [Ch.own 0 0 (Sl Db s2.1 Dc) s2.1] ∧ Md (cov []) σ3 σm, fun _ => fun σm => Hp S0 σ0 σm [Ch.own 0 0 (Sl Db s2.1 Dc) (s2.1.set s2.2.1.toNat (x6.1, x6.2))] ∧ Md (fun i => (cov []) i ∨ (fun b => blk (Sl Db s2.1 Dc) = some b) i) σ3 σm] [fun _ => (Sl Db s2.1 Dc), fun _ => (I s2.2.1), fun _ => (Sl Db s2.1 Dc), fun _ => (I s2.2.2), fun _ => (Sl Db s2.1 Dc), fun _ => (I s2.2.2), fun _ => (pt b9 o10), fun _ => (.agg #[(I x6.1), (I x6.2)]), fun _ => (Sl Db s2.1 Dc), fun _ => (I s2.2.1), fun _ => (pt b16 o17), fun _ => (.agg #[(I x13.1), (I x13.2)]), fun _ => (pt b23 o24), fun _ => undef] () (by kernel_rfl) (by kernel_rfl) ?_ ?_ ?_
   ·intro σm m0
    exact ⟨H.grow (m0.mono fun _ h => h.elim), m0⟩
   ·refine ac rfl (by
      intro k _nm ρ σm hJ hoff hdep
      have e0 := look_off (N := 34) (hoff 0 rfl) rfl
      exact dp_v (v := (Sl Db s2.1 Dc)) wn (rv_move e0) rfl hJ) ?_
    refine ac rfl (by
      intro k _nm ρ σm hJ hoff hdep
      have e8 := look_off (N := 34) (hoff 8 rfl) rfl
      exact dp_v (v := (I s2.2.1)) wn (rv_move e8) rfl hJ) ?_
    refine ac rfl (by
      intro k _nm ρ σm hJ hoff hdep
      have e0 := look_off (N := 34) (hoff 0 rfl) rfl
      exact dp_v (v := (Sl Db s2.1 Dc)) wn (rv_move e0) rfl hJ) ?_
    refine ac rfl (by
      intro k _nm ρ σm hJ hoff hdep
      have e9 := look_off (N := 34) (hoff 9 rfl) rfl
      exact dp_v (v := (I s2.2.2)) wn (rv_move e9) rfl hJ) ?_
    refine ac rfl (by
      intro k _nm ρ σm hJ hoff hdep
      have e0 := look_off (N := 34) (hoff 0 rfl) rfl
      exact dp_v (v := (Sl Db s2.1 Dc)) wn (rv_move e0) rfl hJ) ?_
    refine ac rfl (by
      intro k _nm ρ σm hJ hoff hdep
      have e9 := look_off (N := 34) (hoff 9 rfl) rfl
      exact dp_v (v := (I s2.2.2)) wn (rv_move e9) rfl hJ) ?_
    refine ac rfl (by
      intro k _nm ρ σm hJ hoff hdep
      have e20 := hdep 4 rfl rfl 20 rfl
      have e21 := hdep 5 rfl rfl 21 rfl
      exact dp_v (v := (pt b9 o10)) wn (rv_ix Tryz.underlying27 ti38 e20 e21 hi8) rfl hJ) ?_
    refine all_cons (by
      refine ⟨?_, ?_⟩
      ·intro _nm ρ σm hJ hoff hdep
       have e22 := hdep 6 rfl rfl 22 rfl
       obtain ⟨H, m⟩ := id hJ
       obtain ⟨_, ⟨_, _, rfl, rfl, rfl⟩, hl11, hc12⟩ := ((H.own 0 rfl).at hx7 hi8).cells
       exact dp_v (v := (.agg #[(I x6.1), (I x6.2)])) wn (rv_load Tryz.underlying38 rfl ti38 e22 hl11 hc12) rfl hJ
      trivial) ?_
    refine ac rfl (by
      intro k _nm ρ σm hJ hoff hdep
      have e0 := look_off (N := 34) (hoff 0 rfl) rfl
      exact dp_v (v := (Sl Db s2.1 Dc)) wn (rv_move e0) rfl hJ) ?_
    refine ac rfl (by
      intro k _nm ρ σm hJ hoff hdep
      have e8 := look_off (N := 34) (hoff 8 rfl) rfl
      exact dp_v (v := (I s2.2.1)) wn (rv_move e8) rfl hJ) ?_
    refine ac rfl (by
      intro k _nm ρ σm hJ hoff hdep
      have e24 := hdep 8 rfl rfl 24 rfl
      have e25 := hdep 9 rfl rfl 25 rfl
      exact dp_v (v := (pt b16 o17)) wn (rv_ix Tryz.underlying27 ti38 e24 e25 hi15) rfl hJ) ?_
    refine all_cons (by
      refine ⟨?_, ?_⟩
      ·intro _nm ρ σm hJ hoff hdep
       have e26 := hdep 10 rfl rfl 26 rfl
       obtain ⟨H, m⟩ := id hJ
       obtain ⟨_, ⟨_, _, rfl, rfl, rfl⟩, hl18, hc19⟩ := ((H.own 0 rfl).at hx14 hi15).cells
       exact dp_v (v := (.agg #[(I x13.1), (I x13.2)])) wn (rv_load Tryz.underlying38 rfl ti38 e26 hl18 hc19) rfl hJ
      trivial) ?_
    refine ac rfl (by
      intro k _nm ρ σm hJ hoff hdep
      have e16 := hdep 0 rfl rfl 16 rfl
      have e17 := hdep 1 rfl rfl 17 rfl
      exact dp_v (v := (pt b23 o24)) wn (rv_ix Tryz.underlying27 ti38 e16 e17 hi22) rfl hJ) ?_
    refine all_cons (by
      refine ⟨?_, ?_⟩
      ·intro _nm ρ σm hJ hoff hdep
       have e28 := hdep 12 rfl rfl 28 rfl
       have e23 := hdep 7 rfl rfl 23 rfl
       obtain ⟨H, m⟩ := id hJ
       refine dp_exS wn rfl (ex_store_own (e' := (x6.1, x6.2)) (vs := [(I x6.1), (I x6.2)]) (k := 0) H (i := 0) rfl ti38 hx21 hi22 e28 rfl e23 rfl rfl (Nat.le_of_ble_eq_true rfl) (by simp [plain]) (by rintro _ ⟨_, _, rfl, rfl, rfl⟩; exact ⟨[(I x6.1)], [(I x6.2)], rfl, rfl, rfl⟩)) ?_
       rintro σq ⟨H2, m2⟩
       exact ⟨_, (), rfl, ⟨H2.sel' [0] rfl rfl, m.comp m2⟩, stab [0, 1, 2, 3, 4, 5, 6, 7, 8, 9, 10, 11, 12] (by kernel_rfl) ⟨rfl, rfl, rfl, rfl, rfl, rfl, rfl, rfl, rfl, rfl, rfl, rfl, rfl, trivial⟩⟩
      trivial) ?_
    exact all_nil
   ·intro _nm ρ σ25 hJ hoff hrel
    have e0 := look_off (N := 34) (hoff 0 rfl) rfl
    have e8 := look_off (N := 34) (hoff 8 rfl) rfl
    have e9 := look_off (N := 34) (hoff 9 rfl) rfl
    have e18 := hrel 2 rfl 18 rfl
    have e19 := hrel 3 rfl 19 rfl
    have e27 := hrel 11 rfl 27 rfl
    obtain ⟨H, -⟩ := (show Hp S0 σ0 σ25 [Ch.own 0 0 (Sl Db s2.1 Dc) (s2.1.set s2.2.1.toNat (x6.1, x6.2))] ∧ Md (fun i => (cov []) i ∨ (fun b => blk (Sl Db s2.1 Dc) = some b) i) σ3 σ25 from hJ)
    clear hJ Hs
    rw [fr_lookL (L := [(0, (Sl Db s2.1 Dc)), (8, (I s2.2.1)), (9, (I s2.2.2)), (18, (Sl Db s2.1 Dc)), (19, (I s2.2.2)), (27, (.agg #[(I x13.1), (I x13.2)]))]) ⟨e0, e8, e9, e18, e19, e27, trivial⟩]
    clear hoff hrel e0 e8 e9 e18 e19 e27
    have hsl : (Sl Db s2.1 Dc) = (Sl Db (s2.1.set s2.2.1.toNat (x6.1, x6.2)) Dc) := sl_len (by simp)
    rw [hsl]; rw [hsl] at H; clear hsl
    revert h; refine br fun x26 hx27 h => ?_
    obtain ⟨b29, o30, hi28, -⟩ := (H.own 0 rfl).ix hx27
    refine st (v := (pt b29 o30)) (rv_ix Tryz.underlying27 ti38 rfl rfl hi28) ?_
    refine st_exS (ex_store_own (e' := (x13.1, x13.2)) (vs := [(I x13.1), (I x13.2)]) (k := 0) H (i := 0) rfl ti38 hx27 hi28 rfl rfl rfl rfl rfl (Nat.le_of_ble_eq_true rfl) (by simp [plain]) (by rintro _ ⟨_, _, rfl, rfl, rfl⟩; exact ⟨[(I x13.1)], [(I x13.2)], rfl, rfl, rfl⟩)) wn ?_
    rintro σ31 ⟨H, -⟩
    have hsl : (Sl Db (s2.1.set s2.2.1.toNat (x6.1, x6.2)) Dc) = (Sl Db ((s2.1.set s2.2.1.toNat (x6.1, x6.2)).set s2.2.2.toNat (x13.1, x13.2)) Dc) := sl_len List.length_set.symm
    rw [hsl]; rw [hsl] at H; clear hsl
    refine w_end (q_then (c_seq (rg (sm (I s2.2.1) rfl (st (v := (I (w64 (s2.2.1 + 1)))) (rv_add (a := s2.2.1) (b := 1) rfl rfl) (sa (I (w64 (s2.2.1 + 1))) rfl (w_end (q_then (rg (sm (I s2.2.2) rfl (st (v := (I (w64 (s2.2.2 - 1)))) (rv_sub (a := s2.2.2) (b := 1) rfl rfl) ?_)))))))))))
    refine sa (I (w64 (s2.2.2 - 1))) rfl (w_end (q_blk (q_then ?_)))
    obtain rfl := sj h
    exact ⟨_, rfl, _, σ31, fr_join ⟨rfl, rfl, rfl, trivial⟩, rfl, H.sel' [0] rfl rfl, (List.length_set.trans (List.length_set.trans hn4))⟩
  ·replace h := bif_f hb5 h
   refine c_exit (q_then_x (q_then_x (q_blk_hit ?_)))
   obtain rfl := sj h
   obtain rfl := hres _ rfl
   exact ⟨rfl, _, σ3, fr_join ⟨rfl, trivial⟩, rfl, H.sel' [0] rfl rfl, hn4⟩
 ·clear hj
  have h := h'
  clear h' H
  rintro e a w ⟨rfl, ρ, σ32, rfl, rfl, H, hn33⟩
  obtain rfl := sj h
  exact fin_end (v := (.tuple #[])) (results_ok Tryz.results142 res_nil rfl) ⟨rfl, rfl, hn33⟩ (H.sel' [0] rfl rfl)

end Go.Vs
