/- The functions compute what their models say. -/
import Derived.Test.YtnkflplbeagljaaGreatKCodeNearestC2
set_option linter.unusedVariables false
set_option linter.unusedSimpArgs false
set_option maxRecDepth 20000
namespace Go.Vs
open Go Go.Proofs
attribute [local irreducible] Code.wp Code.wpIn wpList wpListIn wpQuiet Calls CallsIn

theorem c_spec_DrawCodeNearest {Bk : List UInt8} {Bl : Option Addr} {Bm : Nat} {r : ((List (List Int)) × (List (List Int))) × (List (Int × (List Int) × Int)) × (List Int) × Int} (h : M.spec_DrawCodeNearest Bk = some r) :
    Cal2 Tryz.prog 23 [(Sl Bl Bk Bm)] [Ch.ro 0 (Sl Bl Bk Bm) Bk] (fun n0 v L => ∃ (az1 : Option Addr), ∃ (cz2 : Nat), ∃ (az3 : Option Addr), ∃ (cz4 : Nat), ∃ (az5 : Option Addr), ∃ (cz6 : Nat), ∃ (az7 : Option Addr), ∃ (cz8 : Nat), v = (.tuple #[(.agg #[(Sl az1 r.1.1 cz2), (Sl az3 r.1.2 cz4)]), (Sl az5 r.2.1 cz6), (Sl az7 r.2.2.1 cz8), (I r.2.2.2)]) ∧ L = [Ch.own n0 n0 (Sl az1 r.1.1 cz2) r.1.1, Ch.own n0 n0 (Sl az3 r.1.2 cz4) r.1.2, Ch.own n0 n0 (Sl az5 r.2.1 cz6) r.2.1, Ch.own n0 n0 (Sl az7 r.2.2.1 cz8) r.2.2.1]) := by
 refine cal2 (n := 23) Tryz.func23 rfl rfl rfl rfl ?_
 intro S0 σ0 n0 hn0 H
 unfold M.spec_DrawCodeNearest at h
 refine c_seq (rg (st_ex (ex_alloc (cs := [(.slice none 0 0), (.slice none 0 0)]) H hn0 ti47 rfl) wn ?_))
 rintro _ σ2 ⟨b1, rfl, H, -⟩
 refine sa (.slice none 0 0) rfl (sa (.slice none 0 0) rfl (sa (I 0) rfl (w_end (q_then (c_seq (rg (sm (Sl Bl Bk Bm) rfl ?_)))))))
 revert h; refine br fun r3 hx4 h => ?_
 have hc5 := c_spec_newReader (Bl := Bl) (Bm := Bm) hx4
 refine st_call (cx_call hc5 (ent_f hc5.fn rfl) hn0 (H.sel' [1, 0, 1] rfl rfl : Hp S0 σ0 _ ([_] ++ _))) wn ?_
 rintro _ σ9 ⟨_, ⟨b6, a7, c8, rfl, rfl⟩, H, -⟩
 replace H : Hp _ _ _ [_, _, _, _] := H
 refine sa (pt b6 0) rfl (w_end (q_then (c_seq (rg (sm (pt b6 0) rfl ?_)))))
 revert h; refine br fun r10 hx11 h => ?_
 have hc12 := c_spec_anyBook (Br := n0) (Bs := b6) (Bt := 0) (Bu := []) (Bv := []) (Bp := a7) (Bq := c8) hx11
 refine st_call (cx_call hc12 (ent_f hc12.fn rfl) hn0 (H.sel' [0, 1, 1, 2, 3] rfl rfl : Hp S0 σ0 _ ([_, _] ++ _))) wn ?_
 rintro _ σ19 ⟨_, ⟨a13, c14, a15, c16, a17, c18, rfl, rfl⟩, H, -⟩
 replace H : Hp _ _ _ [_, _, _, _, _, _, _] := H
 refine st_ex (ex_alloc (cs := [(.slice none 0 0), (.slice none 0 0)]) H hn0 ti47 rfl) wn ?_
 rintro _ σ21 ⟨b20, rfl, H, -⟩
 replace H : Hp S0 σ0 σ21 [Ch.bx n0 b20 0 [(.slice none 0 0), (.slice none 0 0)] [] [], Ch.own n0 n0 (Sl a13 r10.1.1 c14) r10.1.1, Ch.own n0 n0 (Sl a15 r10.1.2 c16) r10.1.2, Ch.bx n0 b6 0 [(Sl a17 r10.2.1 c18), (I r10.2.2)] [] [], Ch.ro 0 (Sl a17 r10.2.1 c18) r10.2.1, Ch.bx n0 b1 0 [(.slice none 0 0), (.slice none 0 0)] [] []] := H.sel' [0, 1, 2, 3, 4, 6] rfl rfl
 refine st_exS (ex_store_box (k := 0) (cs := [(.slice none 0 0), (.slice none 0 0)]) (vs := [(Sl a13 r10.1.1 c14), (Sl a15 r10.1.2 c16)]) (cs' := [(Sl a13 r10.1.1 c14), (Sl a15 r10.1.2 c16)]) H (i := 0) rfl ti47 rfl rfl rfl rfl rfl (Nat.le_of_ble_eq_true rfl) (by simp [plain]) rfl) wn ?_
 rintro σ22 ⟨H, -⟩
 refine w_end (q_then (c_seq (rg (sm (pt b6 0) rfl ?_))))
 revert h; refine br fun r23 hx24 h => ?_
 have hc25 := c_spec_anyStore (Br := n0) (Bs := b6) (Bt := 0) (Bu := []) (Bv := []) (Bp := a17) (Bq := c18) hx24
 refine st_call (cx_call hc25 (ent_f hc25.fn rfl) hn0 (H.sel' [3, 4, 0, 1, 2, 4, 5] rfl rfl : Hp S0 σ0 _ ([_, _] ++ _))) wn ?_
 rintro _ σ30 ⟨_, ⟨a26, c27, a28, c29, rfl, rfl⟩, H, -⟩
 replace H : Hp _ _ _ [_, _, _, _, _, _, _, _] := H
 replace H : Hp S0 σ0 σ30 [Ch.own n0 n0 (Sl a26 r23.1 c27) r23.1, Ch.bx n0 b6 0 [(Sl a28 r23.2.1 c29), (I r23.2.2)] [] [], Ch.ro 0 (Sl a28 r23.2.1 c29) r23.2.1, Ch.bx n0 b20 0 [(Sl a13 r10.1.1 c14), (Sl a15 r10.1.2 c16)] [] [], Ch.own n0 n0 (Sl a13 r10.1.1 c14) r10.1.1, Ch.own n0 n0 (Sl a15 r10.1.2 c16) r10.1.2, Ch.bx n0 b1 0 [(.slice none 0 0), (.slice none 0 0)] [] []] := H.sel' [0, 1, 2, 3, 4, 5, 7] rfl rfl
 refine sa (Sl a26 r23.1 c27) rfl (w_end (q_then (c_seq (rg (sm (pt b6 0) rfl ?_)))))
 revert h; refine br fun r31 hx32 h => ?_
 have hc33 := c_spec_anyVector (Br := n0) (Bs := b6) (Bt := 0) (Bu := []) (Bv := []) (Bp := a28) (Bq := c29) hx32
 refine st_call (cx_call hc33 (ent_f hc33.fn rfl) hn0 (H.sel' [1, 2, 0, 2, 3, 4, 5, 6] rfl rfl : Hp S0 σ0 _ ([_, _] ++ _))) wn ?_
 rintro _ σ38 ⟨_, ⟨a34, c35, a36, c37, rfl, rfl⟩, H, -⟩
 replace H : Hp _ _ _ [_, _, _, _, _, _, _, _, _] := H
 replace H : Hp S0 σ0 σ38 [Ch.own n0 n0 (Sl a34 r31.1 c35) r31.1, Ch.bx n0 b6 0 [(Sl a36 r31.2.1 c37), (I r31.2.2)] [] [], Ch.ro 0 (Sl a36 r31.2.1 c37) r31.2.1, Ch.own n0 n0 (Sl a26 r23.1 c27) r23.1, Ch.bx n0 b20 0 [(Sl a13 r10.1.1 c14), (Sl a15 r10.1.2 c16)] [] [], Ch.own n0 n0 (Sl a13 r10.1.1 c14) r10.1.1, Ch.own n0 n0 (Sl a15 r10.1.2 c16) r10.1.2, Ch.bx n0 b1 0 [(.slice none 0 0), (.slice none 0 0)] [] []] := H.sel' [0, 1, 2, 3, 5, 6, 7, 8] rfl rfl
 refine sa (Sl a34 r31.1 c35) rfl (w_end (q_then (c_seq ?_)))
 have hc39 := H.cells 4 rfl
 revert h; refine br fun r40 hx41 h => ?_
 have hc42 := c_spec_someK (Br := n0) (Bs := b6) (Bt := 0) (Bu := []) (Bv := []) (Bp := a36) (Bq := c37) hx41
 have Hs := H
 refine rg2 (σ := σ38) (Nm := (Option Addr) × (Nat)) 7 [4, 5] [[false, false], [true, false], [true, true]] [[(0, 0), (1, 1)], [(0, 0), (1, 1), (2, 2)], [(0, 0), (1, 1), (2, 2)], [(0, 0)], [(0, 1)], [(1, 2)], [(2, 2)]] 2 [fun ((a43, c44) : (Option Addr) × (Nat)) => fun σm => Hp S0 σ0 σm [Ch.own n0 n0 (Sl a34 r31.1 c35) r31.1, Ch.bx n0 b6 0 [(Sl a36 r31.2.1 c37), (I r31.2.2)] [] [], Ch.ro 0 (Sl a36 r31.2.1 c37) r31.2.1, Ch.own n0 n0 (Sl a26 r23.1 c27) r23.1, Ch.bx n0 b20 0 [(Sl a13 r10.1.1 c14), (Sl a15 r10.1.2 c16)] [] [], Ch.own n0 n0 (Sl a13 r10.1.1 c14) r10.1.1, Ch.own n0 n0 (Sl a15 r10.1.2 c16) r10.1.2, Ch.bx n0 b1 0 [(.slice none 0 0), (.slice none 0 0)] [] []] ∧ Md (cov []) σ38 σm, fun ((a43, c44) : (Option Addr) × (Nat)) => fun σm => Hp S0 σ0 σm [Ch.bx n0 b6 0 [(Sl a43 r40.2.1 c44), (I r40.2.2)] [] [], Ch.ro 0 (Sl a43 r40.2.1 c44) r40.2.1, Ch.own n0 n0 (Sl a34 r31.1 c35) r31.1, Ch.ro 0 (Sl a36 r31.2.1 c37) r31.2.1, Ch.own n0 n0 (Sl a26 r23.1 c27) r23.1, Ch.bx n0 b20 0 [(Sl a13 r10.1.1 c14), (Sl a15 r10.1.2 c16)] [] [], Ch.own n0 n0 (Sl a13 r10.1.1 c14) r10.1.1, Ch.own n0 n0 (Sl a15 r10.1.2 c16) r10.1.2, Ch.bx n0 b1 0 [(.slice none 0 0), (.slice none 0 0)] [] []] ∧ Md (fun i => (cov []) i ∨ (cov [Ch.bx n0 b6 0 [(Sl a36 r31.2.1 c37), (I r31.2.2)] [] [], Ch.ro 0 (Sl a36 r31.2.1 c37) r31.2.1]) i) σ38 σm, fun ((a43, c44) : (Option Addr) × (Nat)) => fun σm => Hp S0 σ0 σm [Ch.bx n0 b1 0 [(Sl a13 r10.1.1 c14), (Sl a15 r10.1.2 c16)] [] [], Ch.bx n0 b6 0 [(Sl a43 r40.2.1 c44), (I r40.2.2)] [] [], Ch.ro 0 (Sl a43 r40.2.1 c44) r40.2.1, Ch.own n0 n0 (Sl a34 r31.1 c35) r31.1, Ch.ro 0 (Sl a36 r31.2.1 c37) r31.2.1, Ch.own n0 n0 (Sl a26 r23.1 c27) r23.1, Ch.bx n0 b20 0 [(Sl a13 r10.1.1 c14), (Sl a15 r10.1.2 c16)] [] [], Ch.own n0 n0 (Sl a13 r10.1.1 c14) r10.1.1, Ch.own n0 n0 (Sl a15 r10.1.2 c16) r10.1.2] ∧ Md (fun i => (fun i => (cov []) i ∨ (cov [Ch.bx n0 b6 0 [(Sl a36 r31.2.1 c37), (I r31.2.2)] [] [], Ch.ro 0 (Sl a36 r31.2.1 c37) r31.2.1]) i) i ∨ (fun i => i = b1) i) σ38 σm] [fun ((a43, c44) : (Option Addr) × (Nat)) => (.agg #[(Sl a13 r10.1.1 c14), (Sl a15 r10.1.2 c16)]), fun ((a43, c44) : (Option Addr) × (Nat)) => (Sl a26 r23.1 c27), fun ((a43, c44) : (Option Addr) × (Nat)) => (Sl a34 r31.1 c35), fun ((a43, c44) : (Option Addr) × (Nat)) => (pt b6 0), fun ((a43, c44) : (Option Addr) × (Nat)) => (I r40.1), fun ((a43, c44) : (Option Addr) × (Nat)) => undef, fun ((a43, c44) : (Option Addr) × (Nat)) => (Sl a26 r23.1 c27)] (none, 0) (by kernel_rfl) (by kernel_rfl) ?_ ?_ ?_
 ·intro σm m0
  exact ⟨H.grow (m0.mono fun _ h => h.elim), m0⟩
 ·refine all_cons (by
    refine ⟨?_, ?_⟩
    ·rintro ⟨a43, c44⟩ ρ σm hJ hoff hdep
     have e7 := look_off (N := 23) (hoff 7 rfl) rfl
     obtain ⟨H, m⟩ := id hJ
     have hc39 := H.cells 4 rfl
     exact dp_v (v := (.agg #[(Sl a13 r10.1.1 c14), (Sl a15 r10.1.2 c16)])) wn (rv_load (cs := [(Sl a13 r10.1.1 c14), (Sl a15 r10.1.2 c16)]) Tryz.underlying47 rfl ti47 e7 rfl hc39) rfl hJ
    refine ⟨?_, ?_⟩
    ·rintro ⟨a43, c44⟩ ρ σm hJ hoff hdep
     have e7 := look_off (N := 23) (hoff 7 rfl) rfl
     obtain ⟨H, m⟩ := id hJ
     have hc39 := H.cells 5 rfl
     exact dp_v (v := (.agg #[(Sl a13 r10.1.1 c14), (Sl a15 r10.1.2 c16)])) wn (rv_load (cs := [(Sl a13 r10.1.1 c14), (Sl a15 r10.1.2 c16)]) Tryz.underlying47 rfl ti47 e7 rfl hc39) rfl hJ
    trivial) ?_
  refine ac rfl (by
    intro k; rintro ⟨a43, c44⟩ ρ σm hJ hoff hdep
    have e8 := look_off (N := 23) (hoff 8 rfl) rfl
    exact dp_v (v := (Sl a26 r23.1 c27)) wn (rv_move e8) rfl hJ) ?_
  refine ac rfl (by
    intro k; rintro ⟨a43, c44⟩ ρ σm hJ hoff hdep
    have e9 := look_off (N := 23) (hoff 9 rfl) rfl
    exact dp_v (v := (Sl a34 r31.1 c35)) wn (rv_move e9) rfl hJ) ?_
  refine ac rfl (by
    intro k; rintro ⟨a43, c44⟩ ρ σm hJ hoff hdep
    have e6 := look_off (N := 23) (hoff 6 rfl) rfl
    exact dp_v (v := (pt b6 0)) wn (rv_move e6) rfl hJ) ?_
  refine all_cons (by
    refine ⟨?_, ?_⟩
    ·rintro ⟨a43, c44⟩ ρ σm hJ hoff hdep
     have e21 : look 23 ρ 21 = (pt b6 0) := hdep 3 rfl rfl 21 rfl
     obtain ⟨H, m⟩ := id hJ
     refine dp_cx wn (cx_call hc42 (ent_f hc42.fn (by show [look 23 ρ 21] = _; rw [e21])) hn0 (H.sel' [1, 2, 0, 2, 3, 4, 5, 6, 7] rfl rfl : Hp S0 σ0 _ ([_, _] ++ _))) ?_
     rintro _ σq ⟨_, ⟨a43x, c44x, rfl, rfl⟩, H2, m2⟩
     exact ⟨_, (a43x, c44x), rfl, rfl, ⟨H2.sel' [0, 1, 2, 3, 4, 5, 6, 7, 8] rfl rfl, m.comp m2⟩, stab [0, 1, 2, 3] (by kernel_rfl) ⟨rfl, rfl, rfl, rfl, trivial⟩⟩
    trivial) ?_
  refine all_cons (by
    refine ⟨?_, ?_⟩
    ·rintro ⟨a43, c44⟩ ρ σm hJ hoff hdep
     have e2 := look_off (N := 23) (hoff 2 rfl) rfl
     have e18 := hdep 0 rfl rfl 18 rfl
     obtain ⟨H, m⟩ := id hJ
     refine dp_exS wn rfl (ex_store_box (k := 0) (cs := [(.slice none 0 0), (.slice none 0 0)]) (vs := [(Sl a13 r10.1.1 c14), (Sl a15 r10.1.2 c16)]) (cs' := [(Sl a13 r10.1.1 c14), (Sl a15 r10.1.2 c16)]) H (i := 8) rfl ti47 e2 rfl e18 rfl rfl (Nat.le_of_ble_eq_true rfl) (by simp [plain]) rfl) ?_
     rintro σq ⟨H2, m2⟩
     exact ⟨_, (a43, c44), rfl, ⟨H2.sel' [0, 1, 2, 3, 4, 5, 6, 7, 8] rfl rfl, m.comp m2⟩, stab [0, 1, 2, 3, 4] (by kernel_rfl) ⟨rfl, rfl, rfl, rfl, rfl, trivial⟩⟩
    trivial) ?_
  refine ac rfl (by
    intro k; rintro ⟨a43, c44⟩ ρ σm hJ hoff hdep
    have e19 := hdep 1 rfl rfl 19 rfl
    exact dp_v (v := (Sl a26 r23.1 c27)) wn (rv_assign e19) rfl hJ) ?_
  exact all_nil
 ·rintro ⟨a43, c44⟩ ρ σ45 hJ hoff hrel
  have e2 := look_off (N := 23) (hoff 2 rfl) rfl
  have e3 := hrel 6 rfl 3 rfl
  have e20 := hrel 2 rfl 20 rfl
  have e22 := hrel 4 rfl 22 rfl
  obtain ⟨H, -⟩ := (show Hp S0 σ0 σ45 [Ch.bx n0 b1 0 [(Sl a13 r10.1.1 c14), (Sl a15 r10.1.2 c16)] [] [], Ch.bx n0 b6 0 [(Sl a43 r40.2.1 c44), (I r40.2.2)] [] [], Ch.ro 0 (Sl a43 r40.2.1 c44) r40.2.1, Ch.own n0 n0 (Sl a34 r31.1 c35) r31.1, Ch.ro 0 (Sl a36 r31.2.1 c37) r31.2.1, Ch.own n0 n0 (Sl a26 r23.1 c27) r23.1, Ch.bx n0 b20 0 [(Sl a13 r10.1.1 c14), (Sl a15 r10.1.2 c16)] [] [], Ch.own n0 n0 (Sl a13 r10.1.1 c14) r10.1.1, Ch.own n0 n0 (Sl a15 r10.1.2 c16) r10.1.2] ∧ Md (fun i => (fun i => (cov []) i ∨ (cov [Ch.bx n0 b6 0 [(Sl a36 r31.2.1 c37), (I r31.2.2)] [] [], Ch.ro 0 (Sl a36 r31.2.1 c37) r31.2.1]) i) i ∨ (fun i => i = b1) i) σ38 σ45 from hJ)
  clear hJ Hs
  rw [fr_lookL (L := [(2, (pt b1 0)), (3, (Sl a26 r23.1 c27)), (20, (Sl a34 r31.1 c35)), (22, (I r40.1))]) ⟨e2, e3, e20, e22, trivial⟩]
  clear hoff hrel e2 e3 e20 e22
  refine sa (Sl a34 r31.1 c35) rfl (sa (I r40.1) rfl (w_end (q_then (c_ret ?_))))
  obtain rfl := sj h
  exact fin_ret (v := (.tuple #[(.agg #[(Sl a13 r10.1.1 c14), (Sl a15 r10.1.2 c16)]), (Sl a26 r23.1 c27), (Sl a34 r31.1 c35), (I r40.1)])) (results_ok Tryz.results23 (res_cell rfl (run_cellRes (cs := [(Sl a13 r10.1.1 c14), (Sl a15 r10.1.2 c16)]) Tryz.underlying47 rfl ti47 rfl (H.cells 0 rfl)) (res_tmp (v := (Sl a26 r23.1 c27)) rfl (res_tmp (v := (Sl a34 r31.1 c35)) rfl (res_tmp (v := (I r40.1)) rfl res_nil)))) rfl) ⟨a13, c14, a15, c16, a26, c27, a34, c35, rfl, rfl⟩ (H.sel' [7, 8, 5, 3] rfl rfl)

theorem c_impl_validCoords {Cn : List Int} {Cp : Option Addr} {Cq : Nat} {r : Bool} (h : M.impl_validCoords Cn = some r) :
    Cal2 Tryz.prog 97 [(Sl Cp Cn Cq)] [Ch.ro 0 (Sl Cp Cn Cq) Cn] (fun n0 v L => v = (B r) ∧ L = []) := by
 refine cal2 (n := 18) Tryz.func97 rfl rfl rfl rfl ?_
 intro S0 σ0 n0 hn0 H
 unfold M.impl_validCoords at h
 refine c_seq (rg (sa (B false) rfl (w_end (q_then (c_seq (c_seq (rg (sm (Sl Cp Cn Cq) rfl (st (v := (I (Cn.length : Int))) (rv_len Tryz.underlying24 rfl) (sm (I 0) rfl (w_end ?_)))))))))))
 refine q_then ?_
 obtain ⟨o1, hj, h'⟩ := bind_some h
 clear h
 refine c_cut (fun e a w => (∃ t, o1 = (.inl t) ∧ e = .normal ∧ ∃ (ρ : Nat → Value) (σ : St), a = fr 18 (updL ρ []) ∧ w = σ.w ∧ Hp S0 σ0 σ []) ∨ (∃ t, o1 = (.inr t) ∧ e = .ret ∧ ∃ (ρ : Nat → Value) (σ : St), a = fr 18 (updL ρ [(2, (B t))]) ∧ w = σ.w ∧ Hp S0 σ0 σ [])) ?_ ?_
 ·clear h'
  rename _ = some o1 => h
  refine c_blk (wp_loopM _ h (fun s2 a w => ∃ (ρ : Nat → Value) (σ : St), a = fr 18 (updL ρ [(5, (Sl Cp Cn Cq)), (6, (I (Cn.length : Int))), (7, (I s2))]) ∧ w = σ.w ∧ Hp S0 σ0 σ [Ch.ro 0 (Sl Cp Cn Cq) Cn]) ⟨_, σ0, fr_join ⟨rfl, rfl, rfl, trivial⟩, rfl, H.sel' [0] rfl rfl⟩ ?_)
  clear h H
  rintro s2 a w o ⟨ρ, σ3, rfl, rfl, H⟩ h hres
  refine c_seq (rg (st (v := (B (decide (s2 < (Cn.length : Int))))) (rv_lss (a := s2) (b := (Cn.length : Int)) rfl rfl) (w_end (q_then (c_seq ?_)))))
  refine cd_cond (decide (s2 < (Cn.length : Int))) rfl (fun hb4 => ?_) (fun hb4 => ?_)
  ·replace h := bif_t hb4 h
   refine c_skip (q_then (c_seq (c_blk (c_seq (rg ?_)))))
   revert h; refine br fun x5 hx6 h => ?_
   obtain ⟨b8, o9, hi7, -⟩ := (H.ro 0 rfl).ix hx6
   refine st (v := (pt b8 o9)) (rv_ix Tryz.underlying24 ti3 rfl rfl hi7) ?_
   have hc10 := ((H.ro 0 rfl).at hx6 hi7).int
   refine st (v := (I x5)) (rv_load1 Tryz.underlying3 rfl rfl hc10) (sa (I x5) rfl (w_end (q_then (c_seq ?_))))
   obtain ⟨o11, hj, h'⟩ := bind_some h
   clear h
   refine c_cut (fun e a w => e = .normal ∧ ∃ (ρ : Nat → Value) (σ : St), a = fr 18 (updL ρ [(5, (Sl Cp Cn Cq)), (6, (I (Cn.length : Int))), (7, (I s2)), (16, (B o11))]) ∧ w = σ.w ∧ Hp S0 σ0 σ [Ch.ro 0 (Sl Cp Cn Cq) Cn]) ?_ ?_
   ·clear h'
    rename _ = some o11 => h
    refine rg (sm (I x5) rfl (st (v := (B (decide (x5 < (-100))))) (rv_lss (a := x5) (b := (-100)) rfl rfl) (sm (B (decide (x5 < (-100)))) rfl ?_)))
    rcases Bool.eq_false_or_eq_true (decide (x5 < (-100))) with hb12 | hb12
    ·replace h := bif_t hb12 h
     refine st_skip (congrArg some hb12) (st_skip (congrArg some hb12) (st (v := (B true)) (rv_pick_t (congrArg B hb12) rfl) (w_end ?_)))
     obtain rfl := sj h
     exact ⟨rfl, _, σ3, fr_join ⟨rfl, rfl, rfl, rfl, trivial⟩, rfl, H.sel' [0] rfl rfl⟩
    ·replace h := bif_f hb12 h
     refine st_g (v := (I x5)) (congrArg some hb12) (rv_move rfl) (st_g (v := (B (decide (100 < x5)))) (congrArg some hb12) (rv_gtr (a := x5) (b := 100) rfl rfl) (st (v := (B (decide (100 < x5)))) (rv_pick_f (congrArg B hb12) rfl) (w_end ?_)))
     obtain rfl := sj h
     exact ⟨rfl, _, σ3, fr_join ⟨rfl, rfl, rfl, rfl, trivial⟩, rfl, H.sel' [0] rfl rfl⟩
   ·clear hj
    have h := h'
    clear h' H
    rintro e a w ⟨rfl, ρ, σ13, rfl, rfl, H⟩
    refine q_then ?_
    refine cd_cond o11 rfl (fun hb14 => ?_) (fun hb14 => ?_)
    ·replace h := bif_t hb14 h
     refine c_seq (rg (sa (B false) rfl (w_end (q_then (c_ret (q_blk_r (q_then_r (q_then_r (q_blk_r ?_)))))))))
     obtain rfl := sj h
     obtain rfl := hres _ rfl
     exact .inr (⟨_, rfl, rfl, _, σ13, fr_join ⟨rfl, trivial⟩, rfl, H.sel' [] rfl rfl⟩)
    ·replace h := bif_f hb14 h
     refine c_skip (q_blk (q_then (rg (st (v := (I (w64 (s2 + 1)))) (rv_add (a := s2) (b := 1) rfl rfl) (sm (I (w64 (s2 + 1))) rfl (w_end (q_then ?_)))))))
     obtain rfl := sj h
     exact ⟨_, rfl, _, σ13, fr_join ⟨rfl, rfl, rfl, trivial⟩, rfl, H.sel' [0] rfl rfl⟩
  ·replace h := bif_f hb4 h
   refine c_exit (q_then_x (q_then_x (q_blk_hit ?_)))
   obtain rfl := sj h
   obtain rfl := hres _ rfl
   exact .inl ⟨_, rfl, rfl, _, σ3, fr_join trivial, rfl, H.sel' [] rfl rfl⟩
 ·clear hj
  have h := h'
  clear h' H
  rintro e a w (⟨t15, rfl, rfl, ρ, σ16, rfl, rfl, H⟩ | ⟨t17, rfl, rfl, ρ, σ18, rfl, rfl, H⟩)
  ·replace h := selim_l h
   refine q_then (c_seq (rg (sa (B true) rfl (w_end (q_then (c_ret ?_))))))
   obtain rfl := sj h
   exact fin_ret (v := (B true)) (results_ok Tryz.results97 (res_tmp (v := (B true)) rfl res_nil) rfl) ⟨rfl, rfl⟩ (H.sel' [] rfl rfl)
  ·replace h := selim_r h
   refine q_then_r ?_
   obtain rfl := sj h
   exact fin_ret (v := (B t17)) (results_ok Tryz.results97 (res_tmp (v := (B t17)) rfl res_nil) rfl) ⟨rfl, rfl⟩ (H.sel' [] rfl rfl)

theorem c_impl_ValidVector {Ce : List Int} {Cf : Option Addr} {Cg : Nat} {r : Bool} (h : M.impl_ValidVector Ce = some r) :
    Cal2 Tryz.prog 44 [(Sl Cf Ce Cg)] [Ch.ro 0 (Sl Cf Ce Cg) Ce] (fun n0 v L => v = (B r) ∧ L = []) := by
 refine cal2 (n := 10) Tryz.func44 rfl rfl rfl rfl ?_
 intro S0 σ0 n0 hn0 H
 unfold M.impl_ValidVector at h
 refine c_seq (rg (sa (B false) rfl (w_end (q_then (c_seq (rg (sm (Sl Cf Ce Cg) rfl (st (v := (I (Ce.length : Int))) (rv_len Tryz.underlying24 rfl) (st (v := (B ((Ce.length : Int) == 4))) (rv_eql (a := (Ce.length : Int)) (b := 4) rfl rfl) (sm (B ((Ce.length : Int) == 4)) rfl ?_))))))))))
 rcases Bool.eq_false_or_eq_true ((Ce.length : Int) == 4) with hb1 | hb1
 ·replace h := bif_t hb1 h
  refine st_g (v := (Sl Cf Ce Cg)) (congrArg some hb1) (rv_move rfl) ?_
  revert h; refine br fun r2 hx3 h => ?_
  have hc4 := c_impl_validCoords (Cp := Cf) (Cq := Cg) hx3
  refine st_call (cx_call hc4 (ent_f hc4.fn rfl) hn0 (H.sel' [0, 0] rfl rfl : Hp S0 σ0 _ ([_] ++ _))) (wanted_yes rfl (by exact (congrArg some hb1))) ?_
  rintro _ σ5 ⟨_, ⟨rfl, rfl⟩, H, -⟩
  replace H : Hp _ _ _ [_] := H
  refine st (v := (B r2)) (rv_pick_t (congrArg B hb1) rfl) (sa (B r2) rfl (w_end (q_then (c_ret ?_))))
  obtain rfl := sj h
  exact fin_ret (v := (B r2)) (results_ok Tryz.results44 (res_tmp (v := (B r2)) rfl res_nil) rfl) ⟨rfl, rfl⟩ (H.sel' [] rfl rfl)
 ·replace h := bif_f hb1 h
  refine st_skip (congrArg some hb1) (st_skip (congrArg some hb1) (st (v := (B false)) (rv_pick_f (congrArg B hb1) rfl) (sa (B false) rfl (w_end (q_then (c_ret ?_))))))
  obtain rfl := sj h
  exact fin_ret (v := (B false)) (results_ok Tryz.results44 (res_tmp (v := (B false)) rfl res_nil) rfl) ⟨rfl, rfl⟩ (H.sel' [] rfl rfl)

theorem c_impl_validSide {Cr : List (List Int)} {Cs : Option Addr} {Ct : Nat} {r : Bool} (h : M.impl_validSide Cr = some r) :
    Cal2 Tryz.prog 111 [(Sl Cs Cr Ct)] [Ch.ro 0 (Sl Cs Cr Ct) Cr] (fun n0 v L => v = (B r) ∧ L = []) := by
 refine cal2 (n := 23) Tryz.func111 rfl rfl rfl rfl ?_
 intro S0 σ0 n0 hn0 H
 unfold M.impl_validSide at h
 refine c_seq (rg (sa (B false) rfl (w_end (q_then (c_seq (c_seq (rg (sm (Sl Cs Cr Ct) rfl (st (v := (I (Cr.length : Int))) (rv_len Tryz.underlying37 rfl) (st (v := (B ((Cr.length : Int) != 4))) (rv_neq (a := (Cr.length : Int)) (b := 4) rfl rfl) (w_end ?_)))))))))))
 refine q_then ?_
 refine cd_cond ((Cr.length : Int) != 4) rfl (fun hb1 => ?_) (fun hb1 => ?_)
 ·replace h := bif_t hb1 h
  refine c_seq (rg (sa (B false) rfl (w_end (q_then (c_ret (q_then_r ?_))))))
  obtain rfl := sj h
  exact fin_ret (v := (B false)) (results_ok Tryz.results111 (res_tmp (v := (B false)) rfl res_nil) rfl) ⟨rfl, rfl⟩ (H.sel' [] rfl rfl)
 ·replace h := bif_f hb1 h
  refine c_skip (q_then (c_seq (c_seq (rg (sm (Sl Cs Cr Ct) rfl (st (v := (I (Cr.length : Int))) (rv_len Tryz.underlying37 rfl) (sm (I 0) rfl (w_end (q_then ?_)))))))))
  obtain ⟨o2, hj, h'⟩ := bind_some h
  clear h
  refine c_cut (fun e a w => (∃ t, o2 = (.inl t) ∧ e = .normal ∧ ∃ (ρ : Nat → Value) (σ : St), a = fr 23 (updL ρ []) ∧ w = σ.w ∧ Hp S0 σ0 σ []) ∨ (∃ t, o2 = (.inr t) ∧ e = .ret ∧ ∃ (ρ : Nat → Value) (σ : St), a = fr 23 (updL ρ [(2, (B t))]) ∧ w = σ.w ∧ Hp S0 σ0 σ [])) ?_ ?_
  ·clear h'
   rename _ = some o2 => h
   refine c_blk (wp_loopM _ h (fun s3 a w => ∃ (ρ : Nat → Value) (σ : St), a = fr 23 (updL ρ [(8, (Sl Cs Cr Ct)), (9, (I (Cr.length : Int))), (10, (I s3))]) ∧ w = σ.w ∧ Hp S0 σ0 σ [Ch.ro 0 (Sl Cs Cr Ct) Cr]) ⟨_, σ0, fr_join ⟨rfl, rfl, rfl, trivial⟩, rfl, H.sel' [0] rfl rfl⟩ ?_)
   clear h H
   rintro s3 a w o ⟨ρ, σ4, rfl, rfl, H⟩ h hres
   refine c_seq (rg (st (v := (B (decide (s3 < (Cr.length : Int))))) (rv_lss (a := s3) (b := (Cr.length : Int)) rfl rfl) (w_end (q_then (c_seq ?_)))))
   refine cd_cond (decide (s3 < (Cr.length : Int))) rfl (fun hb5 => ?_) (fun hb5 => ?_)
   ·replace h := bif_t hb5 h
    refine c_skip (q_then (c_seq (c_blk (c_seq (rg ?_)))))
    revert h; refine br fun x6 hx7 h => ?_
    obtain ⟨b9, o10, hi8, -⟩ := (H.ro 0 rfl).ix hx7
    refine st (v := (pt b9 o10)) (rv_ix Tryz.underlying37 ti24 rfl rfl hi8) ?_
    obtain ⟨v14, hc15, hR13⟩ := ((H.ro 0 rfl).at hx7 hi8).slice
    obtain ⟨a11, c12, rfl⟩ := hR13.isSl
    replace H := H.add (d := Ch.ro 0 (Sl a11 x6 c12) x6) hR13 (fun _ h => h)
    clear hR13
    refine st (v := (Sl a11 x6 c12)) (rv_load1 Tryz.underlying24 rfl rfl hc15) (sa (Sl a11 x6 c12) rfl (w_end (q_then (c_seq ?_))))
    obtain ⟨o16, hj, h'⟩ := bind_some h
    clear h
    refine c_cut (fun e a w => e = .normal ∧ ∃ (ρ : Nat → Value) (σ : St), a = fr 23 (updL ρ [(8, (Sl Cs Cr Ct)), (9, (I (Cr.length : Int))), (10, (I s3)), (21, (B o16))]) ∧ w = σ.w ∧ Hp S0 σ0 σ [Ch.ro 0 (Sl Cs Cr Ct) Cr]) ?_ ?_
    ·clear h'
     rename _ = some o16 => h
     refine rg (sm (Sl a11 x6 c12) rfl (st (v := (I (x6.length : Int))) (rv_len Tryz.underlying24 rfl) (st (v := (B ((x6.length : Int) != 2))) (rv_neq (a := (x6.length : Int)) (b := 2) rfl rfl) (sm (B ((x6.length : Int) != 2)) rfl ?_))))
     rcases Bool.eq_false_or_eq_true ((x6.length : Int) != 2) with hb17 | hb17
     ·replace h := bif_t hb17 h
      refine st_skip (congrArg some hb17) (st_skip (congrArg some hb17) (st_skip (congrArg some hb17) (st (v := (B true)) (rv_pick_t (congrArg B hb17) rfl) (w_end ?_))))
      obtain rfl := sj h
      exact ⟨rfl, _, σ4, fr_join ⟨rfl, rfl, rfl, rfl, trivial⟩, rfl, H.sel' [1] rfl rfl⟩
     ·replace h := bif_f hb17 h
      refine st_g (v := (Sl a11 x6 c12)) (congrArg some hb17) (rv_move rfl) ?_
      revert h; refine br fun r18 hx19 h => ?_
      have hc20 := c_impl_validCoords (Cp := a11) (Cq := c12) hx19
      refine st_call (cx_call hc20 (ent_f hc20.fn rfl) hn0 (H.sel' [0, 0, 1] rfl rfl : Hp S0 σ0 _ ([_] ++ _))) (wanted_yes rfl (by exact (congrArg some hb17))) ?_
      rintro _ σ21 ⟨_, ⟨rfl, rfl⟩, H, -⟩
      replace H : Hp _ _ _ [_, _] := H
      refine st_g (v := (B (!r18))) (congrArg some hb17) (rv_not rfl) (st (v := (B (!r18))) (rv_pick_f (congrArg B hb17) rfl) (w_end ?_))
      obtain rfl := sj h
      exact ⟨rfl, _, σ21, fr_join ⟨rfl, rfl, rfl, rfl, trivial⟩, rfl, H.sel' [1] rfl rfl⟩
    ·clear hj
     have h := h'
     clear h' H
     rintro e a w ⟨rfl, ρ, σ22, rfl, rfl, H⟩
     refine q_then ?_
     refine cd_cond o16 rfl (fun hb23 => ?_) (fun hb23 => ?_)
     ·replace h := bif_t hb23 h
      refine c_seq (rg (sa (B false) rfl (w_end (q_then (c_ret (q_blk_r (q_then_r (q_then_r (q_blk_r ?_)))))))))
      obtain rfl := sj h
      obtain rfl := hres _ rfl
      exact .inr (⟨_, rfl, rfl, _, σ22, fr_join ⟨rfl, trivial⟩, rfl, H.sel' [] rfl rfl⟩)
     ·replace h := bif_f hb23 h
      refine c_skip (q_blk (q_then (rg (st (v := (I (w64 (s3 + 1)))) (rv_add (a := s3) (b := 1) rfl rfl) (sm (I (w64 (s3 + 1))) rfl (w_end (q_then ?_)))))))
      obtain rfl := sj h
      exact ⟨_, rfl, _, σ22, fr_join ⟨rfl, rfl, rfl, trivial⟩, rfl, H.sel' [0] rfl rfl⟩
   ·replace h := bif_f hb5 h
    refine c_exit (q_then_x (q_then_x (q_blk_hit ?_)))
    obtain rfl := sj h
    obtain rfl := hres _ rfl
    exact .inl ⟨_, rfl, rfl, _, σ4, fr_join trivial, rfl, H.sel' [] rfl rfl⟩
  ·clear hj
   have h := h'
   clear h' H
   rintro e a w (⟨t24, rfl, rfl, ρ, σ25, rfl, rfl, H⟩ | ⟨t26, rfl, rfl, ρ, σ27, rfl, rfl, H⟩)
   ·replace h := selim_l h
    refine q_then (c_seq (rg (sa (B true) rfl (w_end (q_then (c_ret ?_))))))
    obtain rfl := sj h
    exact fin_ret (v := (B true)) (results_ok Tryz.results111 (res_tmp (v := (B true)) rfl res_nil) rfl) ⟨rfl, rfl⟩ (H.sel' [] rfl rfl)
   ·replace h := selim_r h
    refine q_then_r ?_
    obtain rfl := sj h
    exact fin_ret (v := (B t26)) (results_ok Tryz.results111 (res_tmp (v := (B t26)) rfl res_nil) rfl) ⟨rfl, rfl⟩ (H.sel' [] rfl rfl)

theorem c_impl_ValidBook {Cu : (List (List Int)) × (List (List Int))} {Cv : Option Addr} {Cw : Nat} {Cy : Option Addr} {Cz : Nat} {r : Bool} (h : M.impl_ValidBook Cu = some r) :
    Cal2 Tryz.prog 66 [(.agg #[(Sl Cv Cu.1 Cw), (Sl Cy Cu.2 Cz)])] [Ch.ro 0 (Sl Cv Cu.1 Cw) Cu.1, Ch.ro 0 (Sl Cy Cu.2 Cz) Cu.2] (fun n0 v L => v = (B r) ∧ L = []) := by
 refine cal2 (n := 11) Tryz.func66 rfl rfl rfl rfl ?_
 intro S0 σ0 n0 hn0 H
 unfold M.impl_ValidBook at h
 refine c_seq (rg (st_ex (ex_box (cs := [(Sl Cv Cu.1 Cw), (Sl Cy Cu.2 Cz)]) H hn0 rfl rfl) wn ?_))
 rintro _ σ2 ⟨b1, rfl, H, -⟩
 refine sa (B false) rfl (w_end (q_then (c_seq (rg (st (v := (pt b1 0)) (rv_fieldAddr (off := 0) (ft := 37) Tryz.underlying47 rfl ti37 rfl rfl) ?_)))))
 have hc3 := H.cell (u := (Sl Cv Cu.1 Cw)) (o' := 0) 0 0 rfl rfl rfl
 refine st (v := (Sl Cv Cu.1 Cw)) (rv_load1 Tryz.underlying37 rfl rfl hc3) ?_
 revert h; refine br fun r4 hx5 h => ?_
 have hc6 := c_impl_validSide (Cs := Cv) (Ct := Cw) hx5
 refine st_call (cx_call hc6 (ent_f hc6.fn rfl) hn0 (H.sel' [1, 0, 1, 2] rfl rfl : Hp S0 σ0 _ ([_] ++ _))) wn ?_
 rintro _ σ7 ⟨_, ⟨rfl, rfl⟩, H, -⟩
 replace H : Hp _ _ _ [_, _, _] := H
 refine sm (B r4) rfl ?_
 rcases Bool.eq_false_or_eq_true r4 with hb8 | hb8
 ·replace h := bif_t hb8 h
  refine st_g (v := (pt b1 1)) (congrArg some hb8) (rv_fieldAddr (off := 1) (ft := 37) Tryz.underlying47 rfl ti37 rfl rfl) ?_
  have hc9 := H.cell (u := (Sl Cy Cu.2 Cz)) (o' := 1) 0 1 rfl rfl rfl
  refine st_g (v := (Sl Cy Cu.2 Cz)) (congrArg some hb8) (rv_load1 Tryz.underlying37 rfl rfl hc9) ?_
  revert h; refine br fun r10 hx11 h => ?_
  have hc12 := c_impl_validSide (Cs := Cy) (Ct := Cz) hx11
  refine st_call (cx_call hc12 (ent_f hc12.fn rfl) hn0 (H.sel' [2, 0, 1, 2] rfl rfl : Hp S0 σ0 _ ([_] ++ _))) (wanted_yes rfl (by exact (congrArg some hb8))) ?_
  rintro _ σ13 ⟨_, ⟨rfl, rfl⟩, H, -⟩
  replace H : Hp _ _ _ [_, _, _] := H
  refine st (v := (B r10)) (rv_pick_t (congrArg B hb8) rfl) (sa (B r10) rfl (w_end (q_then (c_ret ?_))))
  obtain rfl := sj h
  exact fin_ret (v := (B r10)) (results_ok Tryz.results66 (res_tmp (v := (B r10)) rfl res_nil) rfl) ⟨rfl, rfl⟩ (H.sel' [] rfl rfl)
 ·replace h := bif_f hb8 h
  refine st_skip (congrArg some hb8) (st_skip (congrArg some hb8) (st_skip (congrArg some hb8) (st (v := (B false)) (rv_pick_f (congrArg B hb8) rfl) (sa (B false) rfl (w_end (q_then (c_ret ?_)))))))
  obtain rfl := sj h
  exact fin_ret (v := (B false)) (results_ok Tryz.results66 (res_tmp (v := (B false)) rfl res_nil) rfl) ⟨rfl, rfl⟩ (H.sel' [] rfl rfl)

theorem c_impl_tableOf {Cr : List (List Int)} {Da : List Int} {Cs : Option Addr} {Ct : Nat} {Db : Option Addr} {Dc : Nat} {r : (List Int)} (h : M.impl_tableOf Cr Da = some r) :
    Cal2 Tryz.prog 119 [(Sl Cs Cr Ct), (Sl Db Da Dc)] [Ch.ro 0 (Sl Cs Cr Ct) Cr, Ch.ro 0 (Sl Db Da Dc) Da] (fun n0 v L => v = (.agg (List.map I r).toArray) ∧ L = [] ∧ r.length = 4) := by
 refine cal2 (n := 45) Tryz.func119 rfl rfl rfl rfl ?_
 intro S0 σ0 n0 hn0 H
 unfold M.impl_tableOf at h
 refine c_seq (rg (st_ex (ex_alloc (cs := (List.map I (List.replicate 4 0))) H hn0 ti87 rfl) wn ?_))
 rintro _ σ2 ⟨b1, rfl, H, -⟩
 refine w_end (q_then (c_seq (rg (st_ex (ex_alloc (cs := (List.map I (List.replicate 4 0))) H hn0 ti87 rfl) wn ?_))))
 rintro _ σ4 ⟨b3, rfl, H, -⟩
 refine w_end (q_then (c_seq (c_seq (rg (sm (Sl Cs Cr Ct) rfl (st (v := (I (Cr.length : Int))) (rv_len Tryz.underlying37 rfl) (sm (I 0) rfl (w_end (q_then ?_)))))))))
 obtain ⟨o5, hj, h'⟩ := bind_some h
 clear h
 refine c_cut (fun e a w => e = .normal ∧ ∃ (ρ : Nat → Value) (σ : St), a = fr 45 (updL ρ [(4, (pt b1 0)), (5, (pt b3 0))]) ∧ w = σ.w ∧ Hp S0 σ0 σ [Ch.bx n0 b3 0 (List.map I o5) [] [], Ch.bx n0 b1 0 (List.map I (List.replicate 4 0)) [] []] ∧ o5.length = 4) ?_ ?_
 ·clear h'
  rename _ = some o5 => h
  refine c_blk (wp_loopM _ h (fun s6 a w => ∃ (ρ : Nat → Value) (σ : St), a = fr 45 (updL ρ [(1, (Sl Db Da Dc)), (4, (pt b1 0)), (5, (pt b3 0)), (10, (Sl Cs Cr Ct)), (11, (I (Cr.length : Int))), (12, (I s6.2))]) ∧ w = σ.w ∧ Hp S0 σ0 σ [Ch.bx n0 b3 0 (List.map I s6.1) [] [], Ch.ro 0 (Sl Db Da Dc) Da, Ch.bx n0 b1 0 (List.map I (List.replicate 4 0)) [] [], Ch.ro 0 (Sl Cs Cr Ct) Cr] ∧ s6.1.length = 4) ⟨_, σ4, fr_join ⟨rfl, rfl, rfl, rfl, rfl, rfl, trivial⟩, rfl, H.sel' [0, 3, 1, 2] rfl rfl, rfl⟩ ?_)
  clear h H
  rintro s6 a w o ⟨ρ, σ7, rfl, rfl, H, hl8⟩ h hres
  refine c_seq (rg (st (v := (B (decide (s6.2 < (Cr.length : Int))))) (rv_lss (a := s6.2) (b := (Cr.length : Int)) rfl rfl) (w_end (q_then (c_seq ?_)))))
  refine cd_cond (decide (s6.2 < (Cr.length : Int))) rfl (fun hb9 => ?_) (fun hb9 => ?_)
  ·replace h := bif_t hb9 h
   refine c_skip (q_then (c_seq (c_blk (c_seq (rg (sm (I s6.2) rfl ?_))))))
   revert h; refine br fun x10 hx11 h => ?_
   obtain ⟨b13, o14, hi12, -⟩ := (H.ro 3 rfl).ix hx11
   refine st (v := (pt b13 o14)) (rv_ix Tryz.underlying37 ti24 rfl rfl hi12) ?_
   obtain ⟨v18, hc19, hR17⟩ := ((H.ro 3 rfl).at hx11 hi12).slice
   obtain ⟨a15, c16, rfl⟩ := hR17.isSl
   replace H := H.add (d := Ch.ro 0 (Sl a15 x10 c16) x10) hR17 (fun _ h => h)
   clear hR17
   refine st (v := (Sl a15 x10 c16)) (rv_load1 Tryz.underlying24 rfl rfl hc19) (sa (I s6.2) rfl (sa (Sl a15 x10 c16) rfl (w_end (q_then (c_seq (rg (sm (Sl Db Da Dc) rfl (st (v := (I (Da.length : Int))) (rv_len Tryz.underlying24 rfl) (sm (I 0) rfl (w_end (q_then ?_)))))))))))
   obtain ⟨o20, hj, h'⟩ := bind_some h
   clear h
   refine c_cut (fun e a w => e = .normal ∧ ∃ (ρ : Nat → Value) (σ : St), a = fr 45 (updL ρ [(1, (Sl Db Da Dc)), (4, (pt b1 0)), (5, (pt b3 0)), (10, (Sl Cs Cr Ct)), (11, (I (Cr.length : Int))), (12, (I s6.2))]) ∧ w = σ.w ∧ Hp S0 σ0 σ [Ch.bx n0 b3 0 (List.map I o20) [] [], Ch.ro 0 (Sl Db Da Dc) Da, Ch.bx n0 b1 0 (List.map I (List.replicate 4 0)) [] [], Ch.ro 0 (Sl Cs Cr Ct) Cr] ∧ o20.length = 4) ?_ ?_
   ·clear h'
    rename _ = some o20 => h
    refine c_blk (wp_loopM _ h (fun s21 a w => ∃ (ρ : Nat → Value) (σ : St), a = fr 45 (updL ρ [(1, (Sl Db Da Dc)), (4, (pt b1 0)), (5, (pt b3 0)), (6, (I s6.2)), (7, (Sl a15 x10 c16)), (10, (Sl Cs Cr Ct)), (11, (I (Cr.length : Int))), (12, (I s6.2)), (17, (Sl Db Da Dc)), (18, (I (Da.length : Int))), (19, (I s21.2))]) ∧ w = σ.w ∧ Hp S0 σ0 σ [Ch.bx n0 b3 0 (List.map I s21.1) [] [], Ch.ro 0 (Sl Db Da Dc) Da, Ch.bx n0 b1 0 (List.map I (List.replicate 4 0)) [] [], Ch.ro 0 (Sl a15 x10 c16) x10, Ch.ro 0 (Sl Cs Cr Ct) Cr] ∧ s21.1.length = 4) ⟨_, σ7, fr_join ⟨rfl, rfl, rfl, rfl, rfl, rfl, rfl, rfl, rfl, rfl, rfl, trivial⟩, rfl, H.sel' [1, 2, 3, 0, 4] rfl rfl, hl8⟩ ?_)
    clear h H
    rintro s21 a w o ⟨ρ, σ22, rfl, rfl, H, hl23⟩ h hres
    refine c_seq (rg (st (v := (B (decide (s21.2 < (Da.length : Int))))) (rv_lss (a := s21.2) (b := (Da.length : Int)) rfl rfl) (w_end (q_then (c_seq ?_)))))
    refine cd_cond (decide (s21.2 < (Da.length : Int))) rfl (fun hb24 => ?_) (fun hb24 => ?_)
    ·replace h := bif_t hb24 h
     refine c_skip (q_then (c_seq (c_blk (c_seq (rg (sm (I s21.2) rfl ?_))))))
     revert h; refine br fun x25 hx26 h => ?_
     obtain ⟨b28, o29, hi27, -⟩ := (H.ro 1 rfl).ix hx26
     refine st (v := (pt b28 o29)) (rv_ix Tryz.underlying24 ti3 rfl rfl hi27) ?_
     have hc30 := ((H.ro 1 rfl).at hx26 hi27).int
     refine st (v := (I x25)) (rv_load1 Tryz.underlying3 rfl rfl hc30) (sa (I s21.2) rfl (sa (I x25) rfl (w_end (q_then ?_))))
     refine rgP (σ := σ22) 16 (by kernel_rfl) (by kernel_rfl) (by kernel_rfl) ?_
     refine sq (v := (I s6.2)) (rv_move rfl) ?_
     revert h; refine br fun x31 hx32 h => ?_
     have hl33 := gidx_lt hx32 hl23
     refine sq (v := (pt b3 (0 + s6.2.toNat * 1))) (rv_indexAddr_array Tryz.underlying87 ti3 rfl rfl hl33.1 hl33.2) ?_
     have hc34 := Hp.arrCell H 0 rfl hx32
     refine sq (v := (I x31)) (rv_load1 Tryz.underlying3 rfl rfl hc34) (sq (v := (I x25)) (rv_move rfl) (sq (v := (Sl a15 x10 c16)) (rv_move rfl) (sq (v := (I s21.2)) (rv_move rfl) ?_)))
     revert h; refine br fun x35 hx36 h => ?_
     obtain ⟨b38, o39, hi37, -⟩ := (H.ro 3 rfl).ix hx36
     refine sq (v := (pt b38 o39)) (rv_ix Tryz.underlying24 ti3 rfl rfl hi37) ?_
     have hc40 := ((H.ro 3 rfl).at hx36 hi37).int
     refine sq (v := (I x35)) (rv_load1 Tryz.underlying3 rfl rfl hc40) (sq (v := (I (w64 (x25 - x35)))) (rv_sub (a := x25) (b := x35) rfl rfl) (sq (v := (I x25)) (rv_move rfl) (sq (v := (Sl a15 x10 c16)) (rv_move rfl) (sq (v := (I s21.2)) (rv_move rfl) ?_))))
     revert h; refine br fun x41 hx42 h => ?_
     obtain ⟨b44, o45, hi43, -⟩ := (H.ro 3 rfl).ix hx42
     refine sq (v := (pt b44 o45)) (rv_ix Tryz.underlying24 ti3 rfl rfl hi43) ?_
     have hc46 := ((H.ro 3 rfl).at hx42 hi43).int
     refine sq (v := (I x41)) (rv_load1 Tryz.underlying3 rfl rfl hc46) (sq (v := (I (w64 (x25 - x41)))) (rv_sub (a := x25) (b := x41) rfl rfl) (sq (v := (I (w64 ((w64 (x25 - x35)) * (w64 (x25 - x41)))))) (rv_mul (a := (w64 (x25 - x35))) (b := (w64 (x25 - x41))) rfl rfl) (sq_end ?_)))
     intro σ47 hm48
     replace H := H.grow (hm48.mono fun _ h => h); clear hm48
     refine st (v := (I (w64 (x31 + (w64 ((w64 (x25 - x35)) * (w64 (x25 - x41)))))))) (rv_add (a := x31) (b := (w64 ((w64 (x25 - x35)) * (w64 (x25 - x41))))) rfl rfl) ?_
     revert h; refine br fun x49 hx50 h => ?_
     have hl51 := gidx_lt hx50 hl23
     refine st (v := (pt b3 (0 + s6.2.toNat * 1))) (rv_indexAddr_array Tryz.underlying87 ti3 rfl rfl hl51.1 hl51.2) ?_
     have hl52 := gidx_lt hx50 hl23
     refine st_exS (ex_store_box (k := s6.2.toNat * 1) (vs := [(I (w64 (x31 + (w64 ((w64 (x25 - x35)) * (w64 (x25 - x41)))))))]) (cs' := (List.map I (s21.1.set s6.2.toNat (w64 (x31 + (w64 ((w64 (x25 - x35)) * (w64 (x25 - x41))))))))) H (i := 0) rfl ti3 rfl rfl rfl rfl rfl (by rw [List.length_map, hl23]; simp; omega) (by simp [plain]) (arr_set' _ _ _)) wn ?_
     rintro σ53 ⟨H, -⟩
     refine w_end (q_blk (q_then (rg (st (v := (I (w64 (s21.2 + 1)))) (rv_add (a := s21.2) (b := 1) rfl rfl) (sm (I (w64 (s21.2 + 1))) rfl (w_end (q_then ?_)))))))
     obtain rfl := sj h
     exact ⟨_, rfl, _, σ53, fr_join ⟨rfl, rfl, rfl, rfl, rfl, rfl, rfl, rfl, rfl, rfl, rfl, trivial⟩, rfl, H.sel' [0, 1, 2, 3, 4] rfl rfl, (set_len hl23)⟩
    ·replace h := bif_f hb24 h
     refine c_exit (q_then_x (q_then_x (q_blk_hit ?_)))
     obtain rfl := sj h
     obtain rfl := hres _ rfl
     exact ⟨rfl, _, σ22, fr_join ⟨rfl, rfl, rfl, rfl, rfl, rfl, trivial⟩, rfl, H.sel' [0, 1, 2, 4] rfl rfl, hl23⟩
   ·clear hj
    have h := h'
    clear h' H
    rintro e a w ⟨rfl, ρ, σ54, rfl, rfl, H, hl55⟩
    refine q_blk (q_then (rg (st (v := (I (w64 (s6.2 + 1)))) (rv_add (a := s6.2) (b := 1) rfl rfl) (sm (I (w64 (s6.2 + 1))) rfl (w_end (q_then ?_))))))
    obtain rfl := sj h
    exact ⟨_, rfl, _, σ54, fr_join ⟨rfl, rfl, rfl, rfl, rfl, rfl, trivial⟩, rfl, H.sel' [0, 1, 2, 3] rfl rfl, hl55⟩
  ·replace h := bif_f hb9 h
   refine c_exit (q_then_x (q_then_x (q_blk_hit ?_)))
   obtain rfl := sj h
   obtain rfl := hres _ rfl
   exact ⟨rfl, _, σ7, fr_join ⟨rfl, rfl, trivial⟩, rfl, H.sel' [0, 2] rfl rfl, hl8⟩
 ·clear hj
  have h := h'
  clear h' H
  rintro e a w ⟨rfl, ρ, σ56, rfl, rfl, H, hl57⟩
  refine q_then (c_seq (rg ?_))
  have hc58 := H.cells 0 rfl
  refine st (v := (.agg (List.map I o5).toArray)) (rv_load (cs := (List.map I o5)) Tryz.underlying87 rfl ti87 rfl (by rw [List.length_map]; exact hl57) hc58) ?_
  refine st_exS (ex_store_box (k := 0) (cs := (List.map I (List.replicate 4 0))) (vs := (List.map I o5)) (cs' := (List.map I o5)) H (i := 1) rfl ti87 rfl rfl rfl rfl ((List.length_map _).trans hl57) (arr_fits (k := 4) hl57 rfl) (plain_ints _) (arr_all (k := 4) hl57 rfl)) wn ?_
  rintro σ59 ⟨H, -⟩
  refine w_end (q_then (c_ret ?_))
  obtain rfl := sj h
  exact fin_ret (v := (.agg (List.map I o5).toArray)) (results_ok Tryz.results119 (res_cell rfl (run_cellRes (cs := (List.map I o5)) Tryz.underlying87 rfl ti87 (by rw [List.length_map]; exact hl57) (H.cells 0 rfl)) res_nil) rfl) ⟨rfl, rfl, hl57⟩ (H.sel' [] rfl rfl)

theorem c_impl_tablesOf {Cu : (List (List Int)) × (List (List Int))} {Dd : List Int} {Cv : Option Addr} {Cw : Nat} {Cy : Option Addr} {Cz : Nat} {De : Option Addr} {Dg : Nat} {r : (List Int) × (List Int)} (h : M.impl_tablesOf Cu Dd = some r) :
    Cal2 Tryz.prog 74 [(.agg #[(Sl Cv Cu.1 Cw), (Sl Cy Cu.2 Cz)]), (Sl De Dd Dg)] [Ch.ro 0 (Sl Cv Cu.1 Cw) Cu.1, Ch.ro 0 (Sl Cy Cu.2 Cz) Cu.2, Ch.ro 0 (Sl De Dd Dg) Dd] (fun n0 v L => v = (.tuple #[(.agg (List.map I r.1).toArray), (.agg (List.map I r.2).toArray)]) ∧ L = [] ∧ r.1.length = 4 ∧ r.2.length = 4) := by
 refine cal2 (n := 16) Tryz.func74 rfl rfl rfl rfl ?_
 intro S0 σ0 n0 hn0 H
 unfold M.impl_tablesOf at h
 refine c_seq (rg (st_ex (ex_box (cs := [(Sl Cv Cu.1 Cw), (Sl Cy Cu.2 Cz)]) H hn0 rfl rfl) wn ?_))
 rintro _ σ2 ⟨b1, rfl, H, -⟩
 refine st_ex (ex_alloc (cs := (List.map I (List.replicate 4 0))) H hn0 ti87 rfl) wn ?_
 rintro _ σ4 ⟨b3, rfl, H, -⟩
 refine st_ex (ex_alloc (cs := (List.map I (List.replicate 4 0))) H hn0 ti87 rfl) wn ?_
 rintro _ σ6 ⟨b5, rfl, H, -⟩
 refine w_end (q_then (c_seq ?_))
 have hc7 := H.cell (u := (Sl Cv Cu.1 Cw)) (o' := 0) 2 0 rfl rfl rfl
 revert h; refine br fun xs8 hx9 h => ?_
 obtain ⟨a10, c11, hs12, hR13⟩ := (H.ro 5 rfl).slice hx9
 replace H := H.add (d := Ch.ro 0 (Sl a10 xs8 c11) xs8) hR13 (fun _ h => h)
 clear hR13
 revert h; refine br fun r14 hx15 h => ?_
 have hc16 := c_impl_tableOf (Cs := Cv) (Ct := Cw) (Db := a10) (Dc := c11) hx15
 have hc18 := H.cell (u := (Sl Cy Cu.2 Cz)) (o' := 1) 3 1 rfl rfl rfl
 revert h; refine br fun xs19 hx20 h => ?_
 obtain ⟨a21, c22, hs23, hR24⟩ := (H.ro 6 rfl).slice hx20
 replace H := H.add (d := Ch.ro 0 (Sl a21 xs19 c22) xs19) hR24 (fun _ h => h)
 clear hR24
 have Hs := H
 refine rg2 (σ := σ6) (Nm := Unit) 9 [4] [[false], [true]] [[(0, 0)], [(0, 0)], [(0, 0)], [(0, 0)], [(0, 1)], [(0, 0), (1, 1)], [(0, 0), (1, 1)], [(0, 0), (1, 1)], [(0, 0), (1, 1)]] 1 [fun _ => fun σm => Hp S0 σ0 σm [Ch.ro 0 (Sl a21 xs19 c22) xs19, Ch.ro 0 (Sl a10 xs8 c11) xs8, Ch.bx n0 b5 0 (List.map I (List.replicate 4 0)) [] [], Ch.bx n0 b3 0 (List.map I (List.replicate 4 0)) [] [], Ch.bx n0 b1 0 [(Sl Cv Cu.1 Cw), (Sl Cy Cu.2 Cz)] [] [], Ch.ro 0 (Sl Cv Cu.1 Cw) Cu.1, Ch.ro 0 (Sl Cy Cu.2 Cz) Cu.2, Ch.ro 0 (Sl De Dd Dg) Dd] ∧ Md (cov []) σ6 σm, fun _ => fun σm => Hp S0 σ0 σm [Ch.ro 0 (Sl a21 xs19 c22) xs19, Ch.ro 0 (Sl a10 xs8 c11) xs8, Ch.bx n0 b5 0 (List.map I (List.replicate 4 0)) [] [], Ch.bx n0 b3 0 (List.map I (List.replicate 4 0)) [] [], Ch.bx n0 b1 0 [(Sl Cv Cu.1 Cw), (Sl Cy Cu.2 Cz)] [] [], Ch.ro 0 (Sl Cv Cu.1 Cw) Cu.1, Ch.ro 0 (Sl Cy Cu.2 Cz) Cu.2, Ch.ro 0 (Sl De Dd Dg) Dd] ∧ Md (cov []) σ6 σm ∧ r14.length = 4] [fun _ => (pt b1 0), fun _ => (Sl Cv Cu.1 Cw), fun _ => (Sl De Dd Dg), fun _ => (Sl a10 xs8 c11), fun _ => (.agg (List.map I r14).toArray), fun _ => (pt b1 1), fun _ => (Sl Cy Cu.2 Cz), fun _ => (Sl De Dd Dg), fun _ => (Sl a21 xs19 c22)] () (by kernel_rfl) (by kernel_rfl) ?_ ?_ ?_
 ·intro σm m0
  exact ⟨H.grow (m0.mono fun _ h => h.elim), m0⟩
 ·refine ac rfl (by
    intro k _nm ρ σm hJ hoff hdep
    have e2 := look_off (N := 16) (hoff 2 rfl) rfl
    exact dp_v (v := (pt b1 0)) wn (rv_fieldAddr (off := 0) (ft := 37) Tryz.underlying47 rfl ti37 rfl e2) rfl hJ) ?_
  refine all_cons (by
    refine ⟨?_, ?_⟩
    ·intro _nm ρ σm hJ hoff hdep
     have e6 := hdep 0 rfl rfl 6 rfl
     obtain ⟨H, m⟩ := id hJ
     have hc7 := H.cell (u := (Sl Cv Cu.1 Cw)) (o' := 0) 4 0 rfl rfl rfl
     exact dp_v (v := (Sl Cv Cu.1 Cw)) wn (rv_load1 Tryz.underlying37 rfl e6 hc7) rfl hJ
    trivial) ?_
  refine ac rfl (by
    intro k _nm ρ σm hJ hoff hdep
    have e1 := look_off (N := 16) (hoff 1 rfl) rfl
    exact dp_v (v := (Sl De Dd Dg)) wn (rv_move e1) rfl hJ) ?_
  refine ac rfl (by
    intro k _nm ρ σm hJ hoff hdep
    have e8 := hdep 2 rfl rfl 8 rfl
    exact dp_v (v := (Sl a10 xs8 c11)) wn (rv_slice_h Tryz.underlying24 ti3 hs12 e8 rfl) rfl hJ) ?_
  refine all_cons (by
    refine ⟨?_, ?_⟩
    ·intro _nm ρ σm hJ hoff hdep
     have e7 : look 16 ρ 7 = (Sl Cv Cu.1 Cw) := hdep 1 rfl rfl 7 rfl
     have e9 : look 16 ρ 9 = (Sl a10 xs8 c11) := hdep 3 rfl rfl 9 rfl
     obtain ⟨H, m⟩ := id hJ
     refine dp_cx wn (cx_call hc16 (ent_f hc16.fn (by show [look 16 ρ 7, look 16 ρ 9] = _; rw [e7, e9])) hn0 (H.sel' [5, 1, 0, 1, 2, 3, 4, 5, 6, 7] rfl rfl : Hp S0 σ0 _ ([_, _] ++ _))) ?_
     rintro _ σq ⟨_, ⟨rfl, rfl, hl17⟩, H2, m2⟩
     exact ⟨_, (), rfl, rfl, ⟨H2.sel' [0, 1, 2, 3, 4, 5, 6, 7] rfl rfl, m.comp0 (m2.mono (fun i h => by simp [cov, Ch.ro] at h)), hl17⟩, stab [0, 1, 2, 3, 5, 6, 7, 8] (by kernel_rfl) ⟨rfl, rfl, rfl, rfl, rfl, rfl, rfl, rfl, trivial⟩⟩
    trivial) ?_
  refine ac rfl (by
    intro k _nm ρ σm hJ hoff hdep
    have e2 := look_off (N := 16) (hoff 2 rfl) rfl
    exact dp_v (v := (pt b1 1)) wn (rv_fieldAddr (off := 1) (ft := 37) Tryz.underlying47 rfl ti37 rfl e2) rfl hJ) ?_
  refine all_cons (by
    refine ⟨?_, ?_⟩
    ·intro _nm ρ σm hJ hoff hdep
     have e11 := hdep 5 rfl rfl 11 rfl
     obtain ⟨H, m⟩ := id hJ
     have hc18 := H.cell (u := (Sl Cy Cu.2 Cz)) (o' := 1) 4 1 rfl rfl rfl
     exact dp_v (v := (Sl Cy Cu.2 Cz)) wn (rv_load1 Tryz.underlying37 rfl e11 hc18) rfl hJ
    refine ⟨?_, ?_⟩
    ·intro _nm ρ σm hJ hoff hdep
     have e11 := hdep 5 rfl rfl 11 rfl
     obtain ⟨H, m, hl17⟩ := id hJ
     have hc18 := H.cell (u := (Sl Cy Cu.2 Cz)) (o' := 1) 4 1 rfl rfl rfl
     exact dp_v (v := (Sl Cy Cu.2 Cz)) wn (rv_load1 Tryz.underlying37 rfl e11 hc18) rfl hJ
    trivial) ?_
  refine ac rfl (by
    intro k _nm ρ σm hJ hoff hdep
    have e1 := look_off (N := 16) (hoff 1 rfl) rfl
    exact dp_v (v := (Sl De Dd Dg)) wn (rv_move e1) rfl hJ) ?_
  refine ac rfl (by
    intro k _nm ρ σm hJ hoff hdep
    have e13 := hdep 7 rfl rfl 13 rfl
    exact dp_v (v := (Sl a21 xs19 c22)) wn (rv_slice_l Tryz.underlying24 ti3 hs23 e13 rfl) rfl hJ) ?_
  exact all_nil
 ·intro _nm ρ σ25 hJ hoff hrel
  have e4 := look_off (N := 16) (hoff 4 rfl) rfl
  have e5 := look_off (N := 16) (hoff 5 rfl) rfl
  have e10 := hrel 4 rfl 10 rfl
  have e12 := hrel 6 rfl 12 rfl
  have e14 := hrel 8 rfl 14 rfl
  obtain ⟨H, -, hl17⟩ := (show Hp S0 σ0 σ25 [Ch.ro 0 (Sl a21 xs19 c22) xs19, Ch.ro 0 (Sl a10 xs8 c11) xs8, Ch.bx n0 b5 0 (List.map I (List.replicate 4 0)) [] [], Ch.bx n0 b3 0 (List.map I (List.replicate 4 0)) [] [], Ch.bx n0 b1 0 [(Sl Cv Cu.1 Cw), (Sl Cy Cu.2 Cz)] [] [], Ch.ro 0 (Sl Cv Cu.1 Cw) Cu.1, Ch.ro 0 (Sl Cy Cu.2 Cz) Cu.2, Ch.ro 0 (Sl De Dd Dg) Dd] ∧ Md (cov []) σ6 σ25 ∧ r14.length = 4 from hJ)
  clear hJ Hs
  rw [fr_lookL (L := [(4, (pt b3 0)), (5, (pt b5 0)), (10, (.agg (List.map I r14).toArray)), (12, (Sl Cy Cu.2 Cz)), (14, (Sl a21 xs19 c22))]) ⟨e4, e5, e10, e12, e14, trivial⟩]
  clear hoff hrel e4 e5 e10 e12 e14
  revert h; refine br fun r26 hx27 h => ?_
  have hc28 := c_impl_tableOf (Cs := Cy) (Ct := Cz) (Db := a21) (Dc := c22) hx27
  refine st_call (cx_call hc28 (ent_f hc28.fn rfl) hn0 (H.sel' [6, 0, 0, 1, 2, 3, 4, 5, 6, 7] rfl rfl : Hp S0 σ0 _ ([_, _] ++ _))) wn ?_
  rintro _ σ30 ⟨_, ⟨rfl, rfl, hl29⟩, H, -⟩
  replace H : Hp _ _ _ [_, _, _, _, _, _, _, _] := H
  replace H : Hp S0 σ0 σ30 [Ch.bx n0 b5 0 (List.map I (List.replicate 4 0)) [] [], Ch.bx n0 b3 0 (List.map I (List.replicate 4 0)) [] []] := H.sel' [2, 3] rfl rfl
  refine st_exS (ex_store_box (k := 0) (cs := (List.map I (List.replicate 4 0))) (vs := (List.map I r14)) (cs' := (List.map I r14)) H (i := 1) rfl ti87 rfl rfl rfl rfl ((List.length_map _).trans hl17) (arr_fits (k := 4) hl17 rfl) (plain_ints _) (arr_all (k := 4) hl17 rfl)) wn ?_
  rintro σ31 ⟨H, -⟩
  refine st_exS (ex_store_box (k := 0) (cs := (List.map I (List.replicate 4 0))) (vs := (List.map I r26)) (cs' := (List.map I r26)) H (i := 1) rfl ti87 rfl rfl rfl rfl ((List.length_map _).trans hl29) (arr_fits (k := 4) hl29 rfl) (plain_ints _) (arr_all (k := 4) hl29 rfl)) wn ?_
  rintro σ32 ⟨H, -⟩
  refine w_end (q_then (c_ret ?_))
  obtain rfl := sj h
  exact fin_ret (v := (.tuple #[(.agg (List.map I r14).toArray), (.agg (List.map I r26).toArray)])) (results_ok Tryz.results74 (res_cell rfl (run_cellRes (cs := (List.map I r14)) Tryz.underlying87 rfl ti87 (by rw [List.length_map]; exact hl17) (H.cells 1 rfl)) (res_cell rfl (run_cellRes (cs := (List.map I r26)) Tryz.underlying87 rfl ti87 (by rw [List.length_map]; exact hl29) (H.cells 0 rfl)) res_nil)) rfl) ⟨rfl, rfl, hl17, hl29⟩ (H.sel' [] rfl rfl)

theorem c_impl_CodeDistances {Cu : (List (List Int)) × (List (List Int))} {Dd : List Int} {Cv : Option Addr} {Cw : Nat} {Cy : Option Addr} {Cz : Nat} {De : Option Addr} {Dg : Nat} {r : (List Int)} (h : M.impl_CodeDistances Cu Dd = some r) :
    Cal2 Tryz.prog 26 [(.agg #[(Sl Cv Cu.1 Cw), (Sl Cy Cu.2 Cz)]), (Sl De Dd Dg)] [Ch.ro 0 (Sl Cv Cu.1 Cw) Cu.1, Ch.ro 0 (Sl Cy Cu.2 Cz) Cu.2, Ch.ro 0 (Sl De Dd Dg) Dd] (fun n0 v L => ∃ (az1 : Option Addr), ∃ (cz2 : Nat), v = (Sl az1 r cz2) ∧ L = [Ch.own n0 n0 (Sl az1 r cz2) r]) := by
 refine cal2 (n := 44) Tryz.func26 rfl rfl rfl rfl ?_
 intro S0 σ0 n0 hn0 H
 unfold M.impl_CodeDistances at h
 refine c_seq (rg (st_ex (ex_box (cs := [(Sl Cv Cu.1 Cw), (Sl Cy Cu.2 Cz)]) H hn0 rfl rfl) wn ?_))
 rintro _ σ2 ⟨b1, rfl, H, -⟩
 refine sa (.slice none 0 0) rfl (w_end (q_then (c_seq (c_seq ?_))))
 obtain ⟨o3, hj, h'⟩ := bind_some h
 clear h
 refine c_cut (fun e a w => e = .normal ∧ ∃ (ρ : Nat → Value) (σ : St), a = fr 44 (updL ρ [(1, (Sl De Dd Dg)), (2, (pt b1 0)), (19, (B o3))]) ∧ w = σ.w ∧ Hp S0 σ0 σ [Ch.ro 0 (Sl De Dd Dg) Dd, Ch.ro 0 (Sl Cv Cu.1 Cw) Cu.1, Ch.ro 0 (Sl Cy Cu.2 Cz) Cu.2, Ch.bx n0 b1 0 [(Sl Cv Cu.1 Cw), (Sl Cy Cu.2 Cz)] [] []]) ?_ ?_
 ·clear h'
  rename _ = some o3 => h
  refine rg ?_
  have hc4 := H.cells 0 rfl
  refine st (v := (.agg #[(Sl Cv Cu.1 Cw), (Sl Cy Cu.2 Cz)])) (rv_load (cs := [(Sl Cv Cu.1 Cw), (Sl Cy Cu.2 Cz)]) Tryz.underlying47 rfl ti47 rfl rfl hc4) ?_
  revert h; refine br fun r5 hx6 h => ?_
  have hc7 := c_impl_ValidBook (Cv := Cv) (Cw := Cw) (Cy := Cy) (Cz := Cz) hx6
  refine st_call (cx_call hc7 (ent_f hc7.fn rfl) hn0 (H.sel' [1, 2, 0, 1, 2, 3] rfl rfl : Hp S0 σ0 _ ([_, _] ++ _))) wn ?_
  rintro _ σ8 ⟨_, ⟨rfl, rfl⟩, H, -⟩
  replace H : Hp _ _ _ [_, _, _, _] := H
  refine st (v := (B (!r5))) (rv_not rfl) (sm (B (!r5)) rfl ?_)
  rcases Bool.eq_false_or_eq_true (!r5) with hb9 | hb9
  ·replace h := bif_t hb9 h
   refine st_skip (congrArg some hb9) (st_skip (congrArg some hb9) (st_skip (congrArg some hb9) (st (v := (B true)) (rv_pick_t (congrArg B hb9) rfl) (w_end ?_))))
   obtain rfl := sj h
   exact ⟨rfl, _, σ8, fr_join ⟨rfl, rfl, rfl, trivial⟩, rfl, H.sel' [3, 1, 2, 0] rfl rfl⟩
  ·replace h := bif_f hb9 h
   refine st_g (v := (Sl De Dd Dg)) (congrArg some hb9) (rv_move rfl) ?_
   revert h; refine br fun r10 hx11 h => ?_
   have hc12 := c_impl_ValidVector (Cf := De) (Cg := Dg) hx11
   refine st_call (cx_call hc12 (ent_f hc12.fn rfl) hn0 (H.sel' [3, 0, 1, 2, 3] rfl rfl : Hp S0 σ0 _ ([_] ++ _))) (wanted_yes rfl (by exact (congrArg some hb9))) ?_
   rintro _ σ13 ⟨_, ⟨rfl, rfl⟩, H, -⟩
   replace H : Hp _ _ _ [_, _, _, _] := H
   refine st_g (v := (B (!r10))) (congrArg some hb9) (rv_not rfl) (st (v := (B (!r10))) (rv_pick_f (congrArg B hb9) rfl) (w_end ?_))
   obtain rfl := sj h
   exact ⟨rfl, _, σ13, fr_join ⟨rfl, rfl, rfl, trivial⟩, rfl, H.sel' [3, 1, 2, 0] rfl rfl⟩
 ·clear hj
  have h := h'
  clear h' H
  rintro e a w ⟨rfl, ρ, σ14, rfl, rfl, H⟩
  refine q_then ?_
  refine cd_cond o3 rfl (fun hb15 => ?_) (fun hb15 => ?_)
  ·replace h := bif_t hb15 h
   refine c_seq (rg (sa (.slice none 0 0) rfl (w_end (q_then (c_ret (q_then_r ?_))))))
   replace H := H.nilOwn Int n0 n0
   obtain rfl := sj h
   exact fin_ret (v := (.slice none 0 0)) (results_ok Tryz.results26 (res_tmp (v := (.slice none 0 0)) rfl res_nil) rfl) ⟨none, 0, rfl, rfl⟩ (H.sel' [0] rfl rfl)
  ·replace h := bif_f hb15 h
   refine c_skip (q_then (c_seq (rg ?_)))
   have hc16 := H.cells 3 rfl
   refine st (v := (.agg #[(Sl Cv Cu.1 Cw), (Sl Cy Cu.2 Cz)])) (rv_load (cs := [(Sl Cv Cu.1 Cw), (Sl Cy Cu.2 Cz)]) Tryz.underlying47 rfl ti47 rfl rfl hc16) (sm (Sl De Dd Dg) rfl ?_)
   revert h; refine br fun r17 hx18 h => ?_
   have hc19 := c_impl_tablesOf (Cv := Cv) (Cw := Cw) (Cy := Cy) (Cz := Cz) (De := De) (Dg := Dg) hx18
   refine st_call (cx_call hc19 (ent_f hc19.fn rfl) hn0 (H.sel' [1, 2, 0, 0, 1, 2, 3] rfl rfl : Hp S0 σ0 _ ([_, _, _] ++ _))) wn ?_
   rintro _ σ22 ⟨_, ⟨rfl, rfl, hl20, hl21⟩, H, -⟩
   replace H : Hp _ _ _ [_, _, _, _] := H
   refine sm (.tuple #[(.agg (List.map I r17.1).toArray), (.agg (List.map I r17.2).toArray)]) rfl (st (v := (.agg (List.map I r17.1).toArray)) (rv_extract rfl rfl) (st (v := (.agg (List.map I r17.2).toArray)) (rv_extract rfl rfl) (st_ex (ex_alloc (cs := (List.map I (List.replicate 4 0))) H hn0 ti87 rfl) wn ?_)))
   rintro _ σ24 ⟨b23, rfl, H, -⟩
   refine st_ex (ex_alloc (cs := (List.map I (List.replicate 4 0))) H hn0 ti87 rfl) wn ?_
   rintro _ σ26 ⟨b25, rfl, H, -⟩
   refine st_exS (ex_store_box (k := 0) (cs := (List.map I (List.replicate 4 0))) (vs := (List.map I r17.1)) (cs' := (List.map I r17.1)) H (i := 1) rfl ti87 rfl rfl rfl rfl ((List.length_map _).trans hl20) (arr_fits (k := 4) hl20 rfl) (plain_ints _) (arr_all (k := 4) hl20 rfl)) wn ?_
   rintro σ27 ⟨H, -⟩
   refine st_exS (ex_store_box (k := 0) (cs := (List.map I (List.replicate 4 0))) (vs := (List.map I r17.2)) (cs' := (List.map I r17.2)) H (i := 1) rfl ti87 rfl rfl rfl rfl ((List.length_map _).trans hl21) (arr_fits (k := 4) hl21 rfl) (plain_ints _) (arr_all (k := 4) hl21 rfl)) wn ?_
   rintro σ28 ⟨H, -⟩
   refine w_end (q_then (c_seq (rg ?_)))
   revert h; refine br fun xs29 hx30 h => ?_
   refine st_ex (ex_makeC (el := n0) (z0 := (0 : Int)) (zs := [(I 0)]) H hn0 Tryz.underlying24 ti3 rfl rfl rfl (by decide) hx30 rfl rfl) wn ?_
   rintro _ σ34 ⟨b31, c32, rfl, H, -⟩
   refine sa (Sl (some ⟨b31, 0, none⟩) xs29 c32) rfl (w_end (q_then (c_seq (c_seq (rg ?_)))))
   have hc35 := H.cells 2 rfl
   refine st (v := (.agg (List.map I r17.1).toArray)) (rv_load (cs := (List.map I r17.1)) Tryz.underlying87 rfl ti87 rfl (by rw [List.length_map]; exact hl20) hc35) ?_
   refine sm (I 0) rfl (w_end (q_then ?_))
   obtain ⟨o36, hj, h'⟩ := bind_some h
   clear h
   refine c_cut (fun e a w => e = .normal ∧ ∃ (ρ : Nat → Value) (σ : St) (aj1 : Option Addr) (cj2 : Nat), a = fr 44 (updL ρ [(7, (Sl aj1 o36 cj2))]) ∧ w = σ.w ∧ Hp S0 σ0 σ [Ch.own n0 n0 (Sl aj1 o36 cj2) o36]) ?_ ?_
   ·clear h'
    rename _ = some o36 => h
    refine c_blk (wp_loopM _ h (fun s37 a w => ∃ (ρ : Nat → Value) (σ : St) (aj1 : Option Addr) (cj2 : Nat), a = fr 44 (updL ρ [(6, (pt b25 0)), (7, (Sl aj1 s37.1 cj2)), (27, (.agg (List.map I r17.1).toArray)), (28, (I s37.2))]) ∧ w = σ.w ∧ Hp S0 σ0 σ [Ch.bx n0 b25 0 (List.map I r17.2) [] [], Ch.own n0 n0 (Sl aj1 s37.1 cj2) s37.1]) ⟨_, σ34, (some ⟨b31, 0, none⟩), c32, fr_join ⟨rfl, rfl, rfl, rfl, trivial⟩, rfl, H.sel' [1, 0] rfl rfl⟩ ?_)
    clear h H
    rintro s37 a w o ⟨ρ, σ38, a39, c40, rfl, rfl, H⟩ h hres
    refine c_seq (rg (st (v := (B (decide (s37.2 < 4)))) (rv_lss (a := s37.2) (b := 4) rfl rfl) (w_end (q_then (c_seq ?_)))))
    refine cd_cond (decide (s37.2 < 4)) rfl (fun hb41 => ?_) (fun hb41 => ?_)
    ·replace h := bif_t hb41 h
     refine c_skip (q_then (c_seq (c_blk (c_seq (rg ?_)))))
     revert h; refine br fun x42 hx43 h => ?_
     refine st (v := (I x42)) (rv_idx Tryz.underlying87 ti3 Tryz.underlying3 rfl rfl hx43 hl20) (sa (I x42) rfl (w_end (q_then (c_seq (rg ?_)))))
     have hc44 := H.cells 0 rfl
     refine st (v := (.agg (List.map I r17.2).toArray)) (rv_load (cs := (List.map I r17.2)) Tryz.underlying87 rfl ti87 rfl (by rw [List.length_map]; exact hl21) hc44) ?_
     refine sm (I 0) rfl (w_end (q_then ?_))
     obtain ⟨o45, hj, h'⟩ := bind_some h
     clear h
     refine c_cut (fun e a w => e = .normal ∧ ∃ (ρ : Nat → Value) (σ : St) (aj1 : Option Addr) (cj2 : Nat), a = fr 44 (updL ρ [(6, (pt b25 0)), (7, (Sl aj1 o45 cj2)), (27, (.agg (List.map I r17.1).toArray)), (28, (I s37.2))]) ∧ w = σ.w ∧ Hp S0 σ0 σ [Ch.bx n0 b25 0 (List.map I r17.2) [] [], Ch.own n0 n0 (Sl aj1 o45 cj2) o45]) ?_ ?_
     ·clear h'
      rename _ = some o45 => h
      refine c_blk (wp_loopM _ h (fun s46 a w => ∃ (ρ : Nat → Value) (σ : St) (aj1 : Option Addr) (cj2 : Nat), a = fr 44 (updL ρ [(6, (pt b25 0)), (7, (Sl aj1 s46.1 cj2)), (9, (I x42)), (27, (.agg (List.map I r17.1).toArray)), (28, (I s37.2)), (31, (.agg (List.map I r17.2).toArray)), (32, (I s46.2))]) ∧ w = σ.w ∧ Hp S0 σ0 σ [Ch.bx n0 b25 0 (List.map I r17.2) [] [], Ch.own n0 n0 (Sl aj1 s46.1 cj2) s46.1]) ⟨_, σ38, a39, c40, fr_join ⟨rfl, rfl, rfl, rfl, rfl, rfl, rfl, trivial⟩, rfl, H.sel' [0, 1] rfl rfl⟩ ?_)
      clear h H
      rintro s46 a w o ⟨ρ, σ47, a48, c49, rfl, rfl, H⟩ h hres
      refine c_seq (rg (st (v := (B (decide (s46.2 < 4)))) (rv_lss (a := s46.2) (b := 4) rfl rfl) (w_end (q_then (c_seq ?_)))))
      refine cd_cond (decide (s46.2 < 4)) rfl (fun hb50 => ?_) (fun hb50 => ?_)
      ·replace h := bif_t hb50 h
       refine c_skip (q_then (c_seq (c_blk (c_seq (rg ?_)))))
       revert h; refine br fun x51 hx52 h => ?_
       refine st (v := (I x51)) (rv_idx Tryz.underlying87 ti3 Tryz.underlying3 rfl rfl hx52 hl21) (sa (I x51) rfl (w_end (q_then (rg (sm (Sl a48 s46.1 c49) rfl (sm (I x42) rfl (sm (I x51) rfl (st (v := (I (w64 (x42 + x51)))) (rv_add (a := x42) (b := x51) rfl rfl) ?_))))))))
       refine st_ex (ex_buildSlice (el := n0) (xs := ([w64 (x42 + x51)] : List Int)) (ps := [(0, (I (w64 (x42 + x51))))]) (cs := [(I (w64 (x42 + x51)))]) H hn0 Tryz.underlying24 ti3 rfl rfl (by kernel_rfl) (.cons (c := [(I (w64 (x42 + x51)))]) rfl (.nil)) rfl) wn ?_
       rintro _ σ54 ⟨b53, rfl, H, -⟩
       revert h; refine br fun xs55 hx56 h => ?_
       refine st_ex (ex_append H (i := 2) rfl Tryz.underlying24 Tryz.underlying24 ti3 rfl rfl (by decide) (H.own 0 rfl).rd hx56 hn0 rfl rfl) wn ?_
       rintro _ σ59 ⟨a57, c58, rfl, H, -⟩
       refine sa (Sl a57 xs55 c58) rfl (w_end (q_blk (q_then (rg (st (v := (I (w64 (s46.2 + 1)))) (rv_add (a := s46.2) (b := 1) rfl rfl) (sm (I (w64 (s46.2 + 1))) rfl (w_end (q_then ?_))))))))
       obtain rfl := sj h
       exact ⟨_, rfl, _, σ59, a57, c58, fr_join ⟨rfl, rfl, rfl, rfl, rfl, rfl, rfl, trivial⟩, rfl, H.sel' [2, 0] rfl rfl⟩
      ·replace h := bif_f hb50 h
       refine c_exit (q_then_x (q_then_x (q_blk_hit ?_)))
       obtain rfl := sj h
       obtain rfl := hres _ rfl
       exact ⟨rfl, _, σ47, a48, c49, fr_join ⟨rfl, rfl, rfl, rfl, trivial⟩, rfl, H.sel' [0, 1] rfl rfl⟩
     ·clear hj
      have h := h'
      clear h' H
      rintro e a w ⟨rfl, ρ, σ60, a61, c62, rfl, rfl, H⟩
      refine q_blk (q_then (rg (st (v := (I (w64 (s37.2 + 1)))) (rv_add (a := s37.2) (b := 1) rfl rfl) (sm (I (w64 (s37.2 + 1))) rfl (w_end (q_then ?_))))))
      obtain rfl := sj h
      exact ⟨_, rfl, _, σ60, a61, c62, fr_join ⟨rfl, rfl, rfl, rfl, trivial⟩, rfl, H.sel' [0, 1] rfl rfl⟩
    ·replace h := bif_f hb41 h
     refine c_exit (q_then_x (q_then_x (q_blk_hit ?_)))
     obtain rfl := sj h
     obtain rfl := hres _ rfl
     exact ⟨rfl, _, σ38, a39, c40, fr_join ⟨rfl, trivial⟩, rfl, H.sel' [1] rfl rfl⟩
   ·clear hj
    have h := h'
    clear h' H
    rintro e a w ⟨rfl, ρ, σ63, a64, c65, rfl, rfl, H⟩
    refine q_then (c_seq (rg (sm (Sl a64 o36 c65) rfl (sa (Sl a64 o36 c65) rfl (w_end (q_then (c_ret ?_)))))))
    obtain rfl := sj h
    exact fin_ret (v := (Sl a64 o36 c65)) (results_ok Tryz.results26 (res_tmp (v := (Sl a64 o36 c65)) rfl res_nil) rfl) ⟨a64, c65, rfl, rfl⟩ (H.sel' [0] rfl rfl)

theorem c_impl_validCount {Dh : Int}  {r : Bool} (h : M.impl_validCount Dh = some r) :
    Cal2 Tryz.prog 76 [(I Dh)] [] (fun n0 v L => v = (B r) ∧ L = []) := by
 refine cal2 (n := 9) Tryz.func76 rfl rfl rfl rfl ?_
 intro S0 σ0 n0 hn0 H
 unfold M.impl_validCount at h
 refine c_seq (rg (sa (B false) rfl (w_end (q_then (c_seq (rg (sm (I Dh) rfl (st (v := (B (decide (1 ≤ Dh)))) (rv_geq (a := Dh) (b := 1) rfl rfl) (sm (B (decide (1 ≤ Dh))) rfl ?_)))))))))
 rcases Bool.eq_false_or_eq_true (decide (1 ≤ Dh)) with hb1 | hb1
 ·replace h := bif_t hb1 h
  refine st_g (v := (I Dh)) (congrArg some hb1) (rv_move rfl) (st_g (v := (B (decide (Dh ≤ 16)))) (congrArg some hb1) (rv_leq (a := Dh) (b := 16) rfl rfl) (st (v := (B (decide (Dh ≤ 16)))) (rv_pick_t (congrArg B hb1) rfl) (sa (B (decide (Dh ≤ 16))) rfl (w_end (q_then (c_ret ?_))))))
  obtain rfl := sj h
  exact fin_ret (v := (B (decide (Dh ≤ 16)))) (results_ok Tryz.results76 (res_tmp (v := (B (decide (Dh ≤ 16)))) rfl res_nil) rfl) ⟨rfl, rfl⟩ (H.sel' [] rfl rfl)
 ·replace h := bif_f hb1 h
  refine st_skip (congrArg some hb1) (st_skip (congrArg some hb1) (st (v := (B false)) (rv_pick_f (congrArg B hb1) rfl) (sa (B false) rfl (w_end (q_then (c_ret ?_))))))
  obtain rfl := sj h
  exact fin_ret (v := (B false)) (results_ok Tryz.results76 (res_tmp (v := (B false)) rfl res_nil) rfl) ⟨rfl, rfl⟩ (H.sel' [] rfl rfl)

theorem c_impl_validTags {Di : Int}  {r : Bool} (h : M.impl_validTags Di = some r) :
    Cal2 Tryz.prog 147 [(I Di)] [] (fun n0 v L => v = (B r) ∧ L = []) := by
 refine cal2 (n := 9) Tryz.func147 rfl rfl rfl rfl ?_
 intro S0 σ0 n0 hn0 H
 unfold M.impl_validTags at h
 refine c_seq (rg (sa (B false) rfl (w_end (q_then (c_seq (rg (sm (I Di) rfl (st (v := (B (decide (0 ≤ Di)))) (rv_geq (a := Di) (b := 0) rfl rfl) (sm (B (decide (0 ≤ Di))) rfl ?_)))))))))
 rcases Bool.eq_false_or_eq_true (decide (0 ≤ Di)) with hb1 | hb1
 ·replace h := bif_t hb1 h
  refine st_g (v := (I Di)) (congrArg some hb1) (rv_move rfl) (st_g (v := (B (decide (Di ≤ 15)))) (congrArg some hb1) (rv_leq (a := Di) (b := 15) rfl rfl) (st (v := (B (decide (Di ≤ 15)))) (rv_pick_t (congrArg B hb1) rfl) (sa (B (decide (Di ≤ 15))) rfl (w_end (q_then (c_ret ?_))))))
  obtain rfl := sj h
  exact fin_ret (v := (B (decide (Di ≤ 15)))) (results_ok Tryz.results147 (res_tmp (v := (B (decide (Di ≤ 15)))) rfl res_nil) rfl) ⟨rfl, rfl⟩ (H.sel' [] rfl rfl)
 ·replace h := bif_f hb1 h
  refine st_skip (congrArg some hb1) (st_skip (congrArg some hb1) (st (v := (B false)) (rv_pick_f (congrArg B hb1) rfl) (sa (B false) rfl (w_end (q_then (c_ret ?_))))))
  obtain rfl := sj h
  exact fin_ret (v := (B false)) (results_ok Tryz.results147 (res_tmp (v := (B false)) rfl res_nil) rfl) ⟨rfl, rfl⟩ (H.sel' [] rfl rfl)

theorem c_impl_validItem {Aj : Int × (List Int) × Int} {Ci : Option Addr} {Cj : Nat} {r : Bool} (h : M.impl_validItem Aj = some r) :
    Cal2 Tryz.prog 131 [(.agg #[(I Aj.1), (Sl Ci Aj.2.1 Cj), (I Aj.2.2)])] [Ch.ro 0 (Sl Ci Aj.2.1 Cj) Aj.2.1] (fun n0 v L => v = (B r) ∧ L = []) := by
 refine cal2 (n := 16) Tryz.func131 rfl rfl rfl rfl ?_
 intro S0 σ0 n0 hn0 H
 unfold M.impl_validItem at h
 refine c_seq (rg (st_ex (ex_box (cs := [(I Aj.1), (Sl Ci Aj.2.1 Cj), (I Aj.2.2)]) H hn0 rfl rfl) wn ?_))
 rintro _ σ2 ⟨b1, rfl, H, -⟩
 refine sa (B false) rfl (w_end (q_then (c_seq (rg (st (v := (pt b1 0)) (rv_fieldAddr (off := 0) (ft := 3) Tryz.underlying33 rfl ti3 rfl rfl) ?_)))))
 have hc3 := H.cell (u := (I Aj.1)) (o' := 0) 0 0 rfl rfl rfl
 refine st (v := (I Aj.1)) (rv_load1 Tryz.underlying3 rfl rfl hc3) ?_
 revert h; refine br fun r4 hx5 h => ?_
 have hc6 := c_impl_validKey hx5
 refine st_call (cx_call hc6 (ent_f hc6.fn rfl) hn0 (H.sel' [0, 1] rfl rfl : Hp S0 σ0 _ ([] ++ _))) wn ?_
 rintro _ σ7 ⟨_, ⟨rfl, rfl⟩, H, -⟩
 replace H : Hp _ _ _ [_, _] := H
 refine sm (B r4) rfl ?_
 rcases Bool.eq_false_or_eq_true r4 with hb8 | hb8
 ·replace h := bif_t hb8 h
  refine st_g (v := (pt b1 1)) (congrArg some hb8) (rv_fieldAddr (off := 1) (ft := 24) Tryz.underlying33 rfl ti24 rfl rfl) ?_
  have hc9 := H.cell (u := (Sl Ci Aj.2.1 Cj)) (o' := 1) 0 1 rfl rfl rfl
  refine st_g (v := (Sl Ci Aj.2.1 Cj)) (congrArg some hb8) (rv_load1 Tryz.underlying24 rfl rfl hc9) ?_
  revert h; refine br fun r10 hx11 h => ?_
  have hc12 := c_impl_ValidVector (Cf := Ci) (Cg := Cj) hx11
  refine st_call (cx_call hc12 (ent_f hc12.fn rfl) hn0 (H.sel' [1, 0, 1] rfl rfl : Hp S0 σ0 _ ([_] ++ _))) (wanted_yes rfl (by exact (congrArg some hb8))) ?_
  rintro _ σ13 ⟨_, ⟨rfl, rfl⟩, H, -⟩
  replace H : Hp _ _ _ [_, _] := H
  refine st (v := (B r10)) (rv_pick_t (congrArg B hb8) rfl) (sm (B r10) rfl ?_)
  rcases Bool.eq_false_or_eq_true r10 with hb14 | hb14
  ·replace h := bif_t hb14 h
   refine st_g (v := (pt b1 2)) (congrArg some hb14) (rv_fieldAddr (off := 2) (ft := 3) Tryz.underlying33 rfl ti3 rfl rfl) ?_
   have hc15 := H.cell (u := (I Aj.2.2)) (o' := 2) 0 2 rfl rfl rfl
   refine st_g (v := (I Aj.2.2)) (congrArg some hb14) (rv_load1 Tryz.underlying3 rfl rfl hc15) ?_
   revert h; refine br fun r16 hx17 h => ?_
   have hc18 := c_impl_validTags hx17
   refine st_call (cx_call hc18 (ent_f hc18.fn rfl) hn0 (H.sel' [0, 1] rfl rfl : Hp S0 σ0 _ ([] ++ _))) (wanted_yes rfl (by exact (congrArg some hb14))) ?_
   rintro _ σ19 ⟨_, ⟨rfl, rfl⟩, H, -⟩
   replace H : Hp _ _ _ [_, _] := H
   refine st (v := (B r16)) (rv_pick_t (congrArg B hb14) rfl) (sa (B r16) rfl (w_end (q_then (c_ret ?_))))
   obtain rfl := sj h
   exact fin_ret (v := (B r16)) (results_ok Tryz.results131 (res_tmp (v := (B r16)) rfl res_nil) rfl) ⟨rfl, rfl⟩ (H.sel' [] rfl rfl)
  ·replace h := bif_f hb14 h
   refine st_skip (congrArg some hb14) (st_skip (congrArg some hb14) (st_skip (congrArg some hb14) (st (v := (B false)) (rv_pick_f (congrArg B hb14) rfl) (sa (B false) rfl (w_end (q_then (c_ret ?_)))))))
   obtain rfl := sj h
   exact fin_ret (v := (B false)) (results_ok Tryz.results131 (res_tmp (v := (B false)) rfl res_nil) rfl) ⟨rfl, rfl⟩ (H.sel' [] rfl rfl)
 ·replace h := bif_f hb8 h
  refine st_skip (congrArg some hb8) (st_skip (congrArg some hb8) (st_skip (congrArg some hb8) (st (v := (B false)) (rv_pick_f (congrArg B hb8) rfl) (sm (B false) rfl (st_skip rfl (st_skip rfl (st_skip rfl (st (v := (B false)) (rv_pick_f rfl rfl) (sa (B false) rfl (w_end (q_then ?_)))))))))))
  refine c_ret ?_
  obtain rfl := sj h
  exact fin_ret (v := (B false)) (results_ok Tryz.results131 (res_tmp (v := (B false)) rfl res_nil) rfl) ⟨rfl, rfl⟩ (H.sel' [] rfl rfl)

theorem c_impl_ValidStore {Bg : List (Int × (List Int) × Int)} {Bi : Option Addr} {Bj : Nat} {r : Bool} (h : M.impl_ValidStore Bg = some r) :
    Cal2 Tryz.prog 94 [(Sl Bi Bg Bj)] [Ch.ro 0 (Sl Bi Bg Bj) Bg] (fun n0 v L => v = (B r) ∧ L = []) := by
 refine cal2 (n := 27) Tryz.func94 rfl rfl rfl rfl ?_
 intro S0 σ0 n0 hn0 H
 unfold M.impl_ValidStore at h
 refine c_seq (rg (sa (B false) rfl (w_end (q_then (c_seq (c_seq (rg (sm (Sl Bi Bg Bj) rfl (st (v := (I (Bg.length : Int))) (rv_len Tryz.underlying23 rfl) (st (v := (B (decide (16 < (Bg.length : Int))))) (rv_gtr (a := (Bg.length : Int)) (b := 16) rfl rfl) (w_end ?_)))))))))))
 refine q_then ?_
 refine cd_cond (decide (16 < (Bg.length : Int))) rfl (fun hb1 => ?_) (fun hb1 => ?_)
 ·replace h := bif_t hb1 h
  refine c_seq (rg (sa (B false) rfl (w_end (q_then (c_ret (q_then_r ?_))))))
  obtain rfl := sj h
  exact fin_ret (v := (B false)) (results_ok Tryz.results94 (res_tmp (v := (B false)) rfl res_nil) rfl) ⟨rfl, rfl⟩ (H.sel' [] rfl rfl)
 ·replace h := bif_f hb1 h
  refine c_skip (q_then (c_seq (rg (sa (I 0) rfl (w_end (q_then (c_seq (c_seq (rg (sm (Sl Bi Bg Bj) rfl (st (v := (I (Bg.length : Int))) (rv_len Tryz.underlying23 rfl) ?_)))))))))))
  refine sm (I 0) rfl (w_end (q_then ?_))
  obtain ⟨o2, hj, h'⟩ := bind_some h
  clear h
  refine c_cut (fun e a w => (∃ t, o2 = (.inl t) ∧ e = .normal ∧ ∃ (ρ : Nat → Value) (σ : St), a = fr 27 (updL ρ []) ∧ w = σ.w ∧ Hp S0 σ0 σ []) ∨ (∃ t, o2 = (.inr t) ∧ e = .ret ∧ ∃ (ρ : Nat → Value) (σ : St), a = fr 27 (updL ρ [(2, (B t))]) ∧ w = σ.w ∧ Hp S0 σ0 σ [])) ?_ ?_
  ·clear h'
   rename _ = some o2 => h
   refine c_blk (wp_loopM _ h (fun s3 a w => ∃ (ρ : Nat → Value) (σ : St), a = fr 27 (updL ρ [(3, (I s3.1)), (9, (Sl Bi Bg Bj)), (10, (I (Bg.length : Int))), (11, (I s3.2))]) ∧ w = σ.w ∧ Hp S0 σ0 σ [Ch.ro 0 (Sl Bi Bg Bj) Bg]) ⟨_, σ0, fr_join ⟨rfl, rfl, rfl, rfl, trivial⟩, rfl, H.sel' [0] rfl rfl⟩ ?_)
   clear h H
   rintro s3 a w o ⟨ρ, σ4, rfl, rfl, H⟩ h hres
   refine c_seq (rg (st (v := (B (decide (s3.2 < (Bg.length : Int))))) (rv_lss (a := s3.2) (b := (Bg.length : Int)) rfl rfl) (w_end (q_then (c_seq ?_)))))
   refine cd_cond (decide (s3.2 < (Bg.length : Int))) rfl (fun hb5 => ?_) (fun hb5 => ?_)
   ·replace h := bif_t hb5 h
    refine c_skip (q_then (c_seq (c_blk (c_seq (rg ?_)))))
    revert h; refine br fun x6 hx7 h => ?_
    obtain ⟨b9, o10, hi8, -⟩ := (H.ro 0 rfl).ix hx7
    refine st (v := (pt b9 o10)) (rv_ix Tryz.underlying23 ti33 rfl rfl hi8) ?_
    obtain ⟨_, ⟨_, _, rfl, rfl, ⟨_, _, rfl, ⟨_, rfl, hR15⟩, rfl⟩⟩, hl11, hc12⟩ := ((H.ro 0 rfl).at hx7 hi8).cells
    obtain ⟨a13, c14, rfl⟩ := hR15.isSl
    replace H := H.add (d := Ch.ro 0 (Sl a13 x6.2.1 c14) x6.2.1) hR15 (fun _ h => h)
    clear hR15
    refine st (v := (.agg #[(I x6.1), (Sl a13 x6.2.1 c14), (I x6.2.2)])) (rv_load Tryz.underlying33 rfl ti33 rfl hl11 hc12) (st_ex (ex_alloc (cs := [(I 0), (.slice none 0 0), (I 0)]) H hn0 ti33 rfl) wn ?_)
    rintro _ σ17 ⟨b16, rfl, H, -⟩
    refine st_exS (ex_store_box (k := 0) (cs := [(I 0), (.slice none 0 0), (I 0)]) (vs := [(I x6.1), (Sl a13 x6.2.1 c14), (I x6.2.2)]) (cs' := [(I x6.1), (Sl a13 x6.2.1 c14), (I x6.2.2)]) H (i := 0) rfl ti33 rfl rfl rfl rfl rfl (Nat.le_of_ble_eq_true rfl) (by simp [plain]) rfl) wn ?_
    rintro σ18 ⟨H, -⟩
    refine w_end (q_then (c_seq (c_seq ?_)))
    obtain ⟨o19, hj, h'⟩ := bind_some h
    clear h
    refine c_cut (fun e a w => e = .normal ∧ ∃ (ρ : Nat → Value) (σ : St), a = fr 27 (updL ρ [(5, (pt b16 0)), (9, (Sl Bi Bg Bj)), (10, (I (Bg.length : Int))), (11, (I s3.2)), (23, (B o19))]) ∧ w = σ.w ∧ Hp S0 σ0 σ [Ch.ro 0 (Sl a13 x6.2.1 c14) x6.2.1, Ch.bx n0 b16 0 [(I x6.1), (Sl a13 x6.2.1 c14), (I x6.2.2)] [] [], Ch.ro 0 (Sl Bi Bg Bj) Bg]) ?_ ?_
    ·clear h'
     rename _ = some o19 => h
     refine rg ?_
     have hc20 := H.cells 0 rfl
     refine st (v := (.agg #[(I x6.1), (Sl a13 x6.2.1 c14), (I x6.2.2)])) (rv_load (cs := [(I x6.1), (Sl a13 x6.2.1 c14), (I x6.2.2)]) Tryz.underlying33 rfl ti33 rfl rfl hc20) ?_
     revert h; refine br fun r21 hx22 h => ?_
     have hc23 := c_impl_validItem (Ci := a13) (Cj := c14) hx22
     refine st_call (cx_call hc23 (ent_f hc23.fn rfl) hn0 (H.sel' [1, 0, 1, 2] rfl rfl : Hp S0 σ0 _ ([_] ++ _))) wn ?_
     rintro _ σ24 ⟨_, ⟨rfl, rfl⟩, H, -⟩
     replace H : Hp _ _ _ [_, _, _] := H
     refine st (v := (B (!r21))) (rv_not rfl) (sm (B (!r21)) rfl ?_)
     rcases Bool.eq_false_or_eq_true (!r21) with hb25 | hb25
     ·replace h := bif_t hb25 h
      refine st_skip (congrArg some hb25) (st_skip (congrArg some hb25) (st_skip (congrArg some hb25) (st_skip (congrArg some hb25) (st (v := (B true)) (rv_pick_t (congrArg B hb25) rfl) (w_end ?_)))))
      obtain rfl := sj h
      exact ⟨rfl, _, σ24, fr_join ⟨rfl, rfl, rfl, rfl, rfl, trivial⟩, rfl, H.sel' [1, 0, 2] rfl rfl⟩
     ·replace h := bif_f hb25 h
      refine st_g (v := (pt b16 0)) (congrArg some hb25) (rv_fieldAddr (off := 0) (ft := 3) Tryz.underlying33 rfl ti3 rfl rfl) ?_
      have hc26 := H.cell (u := (I x6.1)) (o' := 0) 0 0 rfl rfl rfl
      refine st_g (v := (I x6.1)) (congrArg some hb25) (rv_load1 Tryz.underlying3 rfl rfl hc26) (st_g (v := (I s3.1)) (congrArg some hb25) (rv_move rfl) (st_g (v := (B (decide (x6.1 ≤ s3.1)))) (congrArg some hb25) (rv_leq (a := x6.1) (b := s3.1) rfl rfl) (st (v := (B (decide (x6.1 ≤ s3.1)))) (rv_pick_f (congrArg B hb25) rfl) (w_end ?_))))
      obtain rfl := sj h
      exact ⟨rfl, _, σ24, fr_join ⟨rfl, rfl, rfl, rfl, rfl, trivial⟩, rfl, H.sel' [1, 0, 2] rfl rfl⟩
    ·clear hj
     have h := h'
     clear h' H
     rintro e a w ⟨rfl, ρ, σ27, rfl, rfl, H⟩
     refine q_then ?_
     refine cd_cond o19 rfl (fun hb28 => ?_) (fun hb28 => ?_)
     ·replace h := bif_t hb28 h
      refine c_seq (rg (sa (B false) rfl (w_end (q_then (c_ret (q_then_r (q_blk_r (q_then_r (q_then_r (q_blk_r ?_))))))))))
      obtain rfl := sj h
      obtain rfl := hres _ rfl
      exact .inr (⟨_, rfl, rfl, _, σ27, fr_join ⟨rfl, trivial⟩, rfl, H.sel' [] rfl rfl⟩)
     ·replace h := bif_f hb28 h
      refine c_skip (q_then (rg (st (v := (pt b16 0)) (rv_fieldAddr (off := 0) (ft := 3) Tryz.underlying33 rfl ti3 rfl rfl) ?_)))
      have hc29 := H.cell (u := (I x6.1)) (o' := 0) 1 0 rfl rfl rfl
      refine st (v := (I x6.1)) (rv_load1 Tryz.underlying3 rfl rfl hc29) (sa (I x6.1) rfl (w_end (q_blk (q_then (rg (st (v := (I (w64 (s3.2 + 1)))) (rv_add (a := s3.2) (b := 1) rfl rfl) (sm (I (w64 (s3.2 + 1))) rfl (w_end (q_then ?_)))))))))
      obtain rfl := sj h
      exact ⟨_, rfl, _, σ27, fr_join ⟨rfl, rfl, rfl, rfl, trivial⟩, rfl, H.sel' [2] rfl rfl⟩
   ·replace h := bif_f hb5 h
    refine c_exit (q_then_x (q_then_x (q_blk_hit ?_)))
    obtain rfl := sj h
    obtain rfl := hres _ rfl
    exact .inl ⟨_, rfl, rfl, _, σ4, fr_join trivial, rfl, H.sel' [] rfl rfl⟩
  ·clear hj
   have h := h'
   clear h' H
   rintro e a w (⟨t30, rfl, rfl, ρ, σ31, rfl, rfl, H⟩ | ⟨t32, rfl, rfl, ρ, σ33, rfl, rfl, H⟩)
   ·replace h := selim_l h
    refine q_then (c_seq (rg (sa (B true) rfl (w_end (q_then (c_ret ?_))))))
    obtain rfl := sj h
    exact fin_ret (v := (B true)) (results_ok Tryz.results94 (res_tmp (v := (B true)) rfl res_nil) rfl) ⟨rfl, rfl⟩ (H.sel' [] rfl rfl)
   ·replace h := selim_r h
    refine q_then_r ?_
    obtain rfl := sj h
    exact fin_ret (v := (B t32)) (results_ok Tryz.results94 (res_tmp (v := (B t32)) rfl res_nil) rfl) ⟨rfl, rfl⟩ (H.sel' [] rfl rfl)

theorem c_impl_validKind {Dj : Int}  {r : Bool} (h : M.impl_validKind Dj = some r) :
    Cal2 Tryz.prog 95 [(I Dj)] [] (fun n0 v L => v = (B r) ∧ L = []) := by
 refine cal2 (n := 9) Tryz.func95 rfl rfl rfl rfl ?_
 intro S0 σ0 n0 hn0 H
 unfold M.impl_validKind at h
 refine c_seq (rg (sa (B false) rfl (w_end (q_then (c_seq (rg (sm (I Dj) rfl (st (v := (B (decide (1 ≤ Dj)))) (rv_geq (a := Dj) (b := 1) rfl rfl) (sm (B (decide (1 ≤ Dj))) rfl ?_)))))))))
 rcases Bool.eq_false_or_eq_true (decide (1 ≤ Dj)) with hb1 | hb1
 ·replace h := bif_t hb1 h
  refine st_g (v := (I Dj)) (congrArg some hb1) (rv_move rfl) (st_g (v := (B (decide (Dj ≤ 4)))) (congrArg some hb1) (rv_leq (a := Dj) (b := 4) rfl rfl) (st (v := (B (decide (Dj ≤ 4)))) (rv_pick_t (congrArg B hb1) rfl) (sa (B (decide (Dj ≤ 4))) rfl (w_end (q_then (c_ret ?_))))))
  obtain rfl := sj h
  exact fin_ret (v := (B (decide (Dj ≤ 4)))) (results_ok Tryz.results95 (res_tmp (v := (B (decide (Dj ≤ 4)))) rfl res_nil) rfl) ⟨rfl, rfl⟩ (H.sel' [] rfl rfl)
 ·replace h := bif_f hb1 h
  refine st_skip (congrArg some hb1) (st_skip (congrArg some hb1) (st (v := (B false)) (rv_pick_f (congrArg B hb1) rfl) (sa (B false) rfl (w_end (q_then (c_ret ?_))))))
  obtain rfl := sj h
  exact fin_ret (v := (B false)) (results_ok Tryz.results95 (res_tmp (v := (B false)) rfl res_nil) rfl) ⟨rfl, rfl⟩ (H.sel' [] rfl rfl)

theorem c_impl_validSearch {Bg : List (Int × (List Int) × Int)} {Dk : Int} {Dm : List Int} {Dn : Int} {Bi : Option Addr} {Bj : Nat} {Do : Option Addr} {Dq : Nat} {r : Bool} (h : M.impl_validSearch Bg Dk Dm Dn = some r) :
    Cal2 Tryz.prog 42 [(Sl Bi Bg Bj), (I Dk), (Sl Do Dm Dq), (I Dn)] [Ch.ro 0 (Sl Bi Bg Bj) Bg, Ch.ro 0 (Sl Do Dm Dq) Dm] (fun n0 v L => v = (B r) ∧ L = []) := by
 refine cal2 (n := 23) Tryz.func42 rfl rfl rfl rfl ?_
 intro S0 σ0 n0 hn0 H
 unfold M.impl_validSearch at h
 refine c_seq (rg (sa (B false) rfl (w_end (q_then (c_seq (rg (sm (Sl Bi Bg Bj) rfl ?_)))))))
 revert h; refine br fun r1 hx2 h => ?_
 have hc3 := c_impl_ValidStore (Bi := Bi) (Bj := Bj) hx2
 refine st_call (cx_call hc3 (ent_f hc3.fn rfl) hn0 (H.sel' [0, 0, 1] rfl rfl : Hp S0 σ0 _ ([_] ++ _))) wn ?_
 rintro _ σ4 ⟨_, ⟨rfl, rfl⟩, H, -⟩
 replace H : Hp _ _ _ [_, _] := H
 refine sm (B r1) rfl ?_
 rcases Bool.eq_false_or_eq_true r1 with hb5 | hb5
 ·replace h := bif_t hb5 h
  refine st_g (v := (I Dk)) (congrArg some hb5) (rv_move rfl) ?_
  revert h; refine br fun r6 hx7 h => ?_
  have hc8 := c_impl_validKind hx7
  refine st_call (cx_call hc8 (ent_f hc8.fn rfl) hn0 (H.sel' [0, 1] rfl rfl : Hp S0 σ0 _ ([] ++ _))) (wanted_yes rfl (by exact (congrArg some hb5))) ?_
  rintro _ σ9 ⟨_, ⟨rfl, rfl⟩, H, -⟩
  replace H : Hp _ _ _ [_, _] := H
  refine st (v := (B r6)) (rv_pick_t (congrArg B hb5) rfl) (sm (B r6) rfl ?_)
  rcases Bool.eq_false_or_eq_true r6 with hb10 | hb10
  ·replace h := bif_t hb10 h
   refine st_g (v := (Sl Do Dm Dq)) (congrArg some hb10) (rv_move rfl) ?_
   revert h; refine br fun r11 hx12 h => ?_
   have hc13 := c_impl_ValidVector (Cf := Do) (Cg := Dq) hx12
   refine st_call (cx_call hc13 (ent_f hc13.fn rfl) hn0 (H.sel' [1, 0, 1] rfl rfl : Hp S0 σ0 _ ([_] ++ _))) (wanted_yes rfl (by exact (congrArg some hb10))) ?_
   rintro _ σ14 ⟨_, ⟨rfl, rfl⟩, H, -⟩
   replace H : Hp _ _ _ [_, _] := H
   refine st (v := (B r11)) (rv_pick_t (congrArg B hb10) rfl) (sm (B r11) rfl ?_)
   rcases Bool.eq_false_or_eq_true r11 with hb15 | hb15
   ·replace h := bif_t hb15 h
    refine st_g (v := (I Dn)) (congrArg some hb15) (rv_move rfl) ?_
    revert h; refine br fun r16 hx17 h => ?_
    have hc18 := c_impl_validCount hx17
    refine st_call (cx_call hc18 (ent_f hc18.fn rfl) hn0 (H.sel' [0, 1] rfl rfl : Hp S0 σ0 _ ([] ++ _))) (wanted_yes rfl (by exact (congrArg some hb15))) ?_
    rintro _ σ19 ⟨_, ⟨rfl, rfl⟩, H, -⟩
    replace H : Hp _ _ _ [_, _] := H
    refine st (v := (B r16)) (rv_pick_t (congrArg B hb15) rfl) (sa (B r16) rfl (w_end (q_then (c_ret ?_))))
    obtain rfl := sj h
    exact fin_ret (v := (B r16)) (results_ok Tryz.results42 (res_tmp (v := (B r16)) rfl res_nil) rfl) ⟨rfl, rfl⟩ (H.sel' [] rfl rfl)
   ·replace h := bif_f hb15 h
    refine st_skip (congrArg some hb15) (st_skip (congrArg some hb15) (st (v := (B false)) (rv_pick_f (congrArg B hb15) rfl) (sa (B false) rfl (w_end (q_then (c_ret ?_))))))
    obtain rfl := sj h
    exact fin_ret (v := (B false)) (results_ok Tryz.results42 (res_tmp (v := (B false)) rfl res_nil) rfl) ⟨rfl, rfl⟩ (H.sel' [] rfl rfl)
  ·replace h := bif_f hb10 h
   refine st_skip (congrArg some hb10) (st_skip (congrArg some hb10) (st (v := (B false)) (rv_pick_f (congrArg B hb10) rfl) (sm (B false) rfl (st_skip rfl (st_skip rfl (st (v := (B false)) (rv_pick_f rfl rfl) (sa (B false) rfl (w_end (q_then (c_ret ?_))))))))))
   obtain rfl := sj h
   exact fin_ret (v := (B false)) (results_ok Tryz.results42 (res_tmp (v := (B false)) rfl res_nil) rfl) ⟨rfl, rfl⟩ (H.sel' [] rfl rfl)
 ·replace h := bif_f hb5 h
  refine st_skip (congrArg some hb5) (st_skip (congrArg some hb5) (st (v := (B false)) (rv_pick_f (congrArg B hb5) rfl) (sm (B false) rfl (st_skip rfl (st_skip rfl (st (v := (B false)) (rv_pick_f rfl rfl) (sm (B false) rfl (st_skip rfl (st_skip rfl (st (v := (B false)) (rv_pick_f rfl rfl) (sa (B false) rfl ?_)))))))))))
  refine w_end (q_then (c_ret ?_))
  obtain rfl := sj h
  exact fin_ret (v := (B false)) (results_ok Tryz.results42 (res_tmp (v := (B false)) rfl res_nil) rfl) ⟨rfl, rfl⟩ (H.sel' [] rfl rfl)

theorem c_impl_hitHeap_Push__impl_Hit {Ai : List (Int × Int)} {Ck : Int × Int} {Dr : Option Addr} {Ds : Nat} {Dt Du Dv : Nat} {Dw Dx : List Value} {r : (List (Int × Int))} (h : M.impl_hitHeap_Push__impl_Hit Ai Ck = some r) :
    Cal2 Tryz.prog 200 [(pt Du Dv), (.iface 44 (.agg #[(I Ck.1), (I Ck.2)]))] [Ch.bx Dt Du Dv [(Sl Dr Ai Ds)] Dw Dx, Ch.own 0 0 (Sl Dr Ai Ds) Ai] (fun n0 v L => ∃ (az1 : Option Addr), ∃ (cz2 : Nat), v = (.tuple #[]) ∧ L = [Ch.bx Dt Du Dv [(Sl az1 r cz2)] Dw Dx, Ch.own 0 0 (Sl az1 r cz2) r]) := by
 refine cal2 (n := 13) Tryz.func200 rfl rfl rfl rfl ?_
 intro S0 σ0 n0 hn0 H
 unfold M.impl_hitHeap_Push__impl_Hit at h
 have hc1 := H.cell (u := (Sl Dr Ai Ds)) (o' := Dv) 0 0 rfl rfl rfl
 revert h; refine br fun xs3 hx4 h => ?_
 have Hs := H
 refine rg2 (σ := σ0) (Nm := (Nat) × (Option Addr) × (Nat)) 8 [6, 7] [[false, false], [true, false], [true, true]] [[(0, 0), (1, 1), (2, 2)], [(0, 0), (1, 1)], [(0, 0), (1, 1)], [(0, 0), (1, 1)], [(0, 0)], [(0, 0)], [(0, 1)], [(1, 2)]] 2 [fun ((b2, a5, c6) : (Nat) × (Option Addr) × (Nat)) => fun σm => Hp S0 σ0 σm [Ch.bx Dt Du Dv [(Sl Dr Ai Ds)] Dw Dx, Ch.own 0 0 (Sl Dr Ai Ds) Ai] ∧ Md (cov []) σ0 σm, fun ((b2, a5, c6) : (Nat) × (Option Addr) × (Nat)) => fun σm => Hp S0 σ0 σm [Ch.own n0 n0 (Sl (some ⟨b2, 0, none⟩) ([(Ck.1, Ck.2)] : List (Int × Int)) 1) ([(Ck.1, Ck.2)] : List (Int × Int)), Ch.bx Dt Du Dv [(Sl Dr Ai Ds)] Dw Dx, Ch.own 0 0 (Sl Dr Ai Ds) Ai] ∧ Md (cov []) σ0 σm, fun ((b2, a5, c6) : (Nat) × (Option Addr) × (Nat)) => fun σm => Hp S0 σ0 σm [Ch.own 0 0 (Sl a5 xs3 c6) xs3, Ch.own n0 n0 (Sl (some ⟨b2, 0, none⟩) ([(Ck.1, Ck.2)] : List (Int × Int)) 1) ([(Ck.1, Ck.2)] : List (Int × Int)), Ch.bx Dt Du Dv [(Sl Dr Ai Ds)] Dw Dx] ∧ Md (fun i => (cov []) i ∨ (fun b => blk (Sl Dr Ai Ds) = some b) i) σ0 σm] [fun ((b2, a5, c6) : (Nat) × (Option Addr) × (Nat)) => (pt Du Dv), fun ((b2, a5, c6) : (Nat) × (Option Addr) × (Nat)) => (pt Du Dv), fun ((b2, a5, c6) : (Nat) × (Option Addr) × (Nat)) => (pt Du Dv), fun ((b2, a5, c6) : (Nat) × (Option Addr) × (Nat)) => (Sl Dr Ai Ds), fun ((b2, a5, c6) : (Nat) × (Option Addr) × (Nat)) => (.iface 44 (.agg #[(I Ck.1), (I Ck.2)])), fun ((b2, a5, c6) : (Nat) × (Option Addr) × (Nat)) => (.agg #[(I Ck.1), (I Ck.2)]), fun ((b2, a5, c6) : (Nat) × (Option Addr) × (Nat)) => (Sl (some ⟨b2, 0, none⟩) ([(Ck.1, Ck.2)] : List (Int × Int)) 1), fun ((b2, a5, c6) : (Nat) × (Option Addr) × (Nat)) => (Sl a5 xs3 c6)] (0, none, 0) (by kernel_rfl) (by kernel_rfl) ?_ ?_ ?_
 ·intro σm m0
  exact ⟨H.grow (m0.mono fun _ h => h.elim), m0⟩
 ·refine ac rfl (by
    intro k; rintro ⟨b2, a5, c6⟩ ρ σm hJ hoff hdep
    have e0 := look_off (N := 13) (hoff 0 rfl) rfl
    exact dp_v (v := (pt Du Dv)) wn (rv_move e0) rfl hJ) ?_
  refine ac rfl (by
    intro k; rintro ⟨b2, a5, c6⟩ ρ σm hJ hoff hdep
    have e0 := look_off (N := 13) (hoff 0 rfl) rfl
    exact dp_v (v := (pt Du Dv)) wn (rv_move e0) rfl hJ) ?_
  refine ac rfl (by
    intro k; rintro ⟨b2, a5, c6⟩ ρ σm hJ hoff hdep
    have e5 := hdep 1 rfl rfl 5 rfl
    exact dp_v (v := (pt Du Dv)) wn (rv_nilCheck e5) rfl hJ) ?_
  refine all_cons (by
    refine ⟨?_, ?_⟩
    ·rintro ⟨b2, a5, c6⟩ ρ σm hJ hoff hdep
     have e6 := hdep 2 rfl rfl 6 rfl
     obtain ⟨H, m⟩ := id hJ
     have hc1 := H.cell (u := (Sl Dr Ai Ds)) (o' := Dv) 0 0 rfl rfl rfl
     exact dp_v (v := (Sl Dr Ai Ds)) wn (rv_load1 Tryz.underlying114 rfl e6 hc1) rfl hJ
    refine ⟨?_, ?_⟩
    ·rintro ⟨b2, a5, c6⟩ ρ σm hJ hoff hdep
     have e6 := hdep 2 rfl rfl 6 rfl
     obtain ⟨H, m⟩ := id hJ
     have hc1 := H.cell (u := (Sl Dr Ai Ds)) (o' := Dv) 1 0 rfl rfl rfl
     exact dp_v (v := (Sl Dr Ai Ds)) wn (rv_load1 Tryz.underlying114 rfl e6 hc1) rfl hJ
    trivial) ?_
  refine ac rfl (by
    intro k; rintro ⟨b2, a5, c6⟩ ρ σm hJ hoff hdep
    have e1 := look_off (N := 13) (hoff 1 rfl) rfl
    exact dp_v (v := (.iface 44 (.agg #[(I Ck.1), (I Ck.2)]))) wn (rv_move e1) rfl hJ) ?_
  refine ac rfl (by
    intro k; rintro ⟨b2, a5, c6⟩ ρ σm hJ hoff hdep
    have e8 := hdep 4 rfl rfl 8 rfl
    exact dp_v (v := (.agg #[(I Ck.1), (I Ck.2)])) wn (rv_typeAssert Tryz.underlying44 rfl e8) rfl hJ) ?_
  refine all_cons (by
    refine ⟨?_, ?_⟩
    ·rintro ⟨b2, a5, c6⟩ ρ σm hJ hoff hdep
     have e9 : look 13 ρ 9 = (.agg #[(I Ck.1), (I Ck.2)]) := hdep 5 rfl rfl 9 rfl
     obtain ⟨H, m⟩ := id hJ
     refine dp_ex wn (ex_buildSlice (el := n0) (xs := ([(Ck.1, Ck.2)] : List (Int × Int))) (ps := [(0, (.agg #[(I Ck.1), (I Ck.2)]))]) (cs := [(I Ck.1), (I Ck.2)]) H hn0 Tryz.underlying114 ti44 rfl (by show [(0, look 13 ρ 9)] = _; rw [e9]) (by kernel_rfl) (.cons (c := [(I Ck.1), (I Ck.2)]) ⟨[(I Ck.1)], [(I Ck.2)], rfl, rfl, rfl⟩ (.nil)) rfl) ?_
     rintro _ σq ⟨b2x, rfl, H2, m2⟩
     exact ⟨_, (b2x, a5, c6), rfl, rfl, ⟨H2.sel' [0, 1, 2] rfl rfl, m.comp0 m2⟩, stab [0, 1, 2, 3, 4, 5] (by kernel_rfl) ⟨rfl, rfl, rfl, rfl, rfl, rfl, trivial⟩⟩
    trivial) ?_
  refine all_cons (by
    refine ⟨?_, ?_⟩
    ·rintro ⟨b2, a5, c6⟩ ρ σm hJ hoff hdep
     have e7 := hdep 3 rfl rfl 7 rfl
     have e10 := hdep 6 rfl rfl 10 rfl
     obtain ⟨H, m⟩ := id hJ
     refine dp_ex wn (ex_append H (i := 2) rfl Tryz.underlying114 Tryz.underlying114 ti44 rfl rfl (by decide) ((H.own 0 rfl).rd.sc) hx4 (Nat.zero_le _) e7 e10) ?_
     rintro _ σq ⟨a5x, c6x, rfl, H2, m2⟩
     exact ⟨_, (b2, a5x, c6x), rfl, rfl, ⟨H2.sel' [0, 1, 2] rfl rfl, m.comp m2⟩, stab [0, 1, 2, 3, 4, 5, 6] (by kernel_rfl) ⟨rfl, rfl, rfl, rfl, rfl, rfl, rfl, trivial⟩⟩
    trivial) ?_
  exact all_nil
 ·rintro ⟨b2, a5, c6⟩ ρ σ7 hJ hoff hrel
  have e0 := look_off (N := 13) (hoff 0 rfl) rfl
  have e4 := hrel 0 rfl 4 rfl
  have e11 := hrel 7 rfl 11 rfl
  obtain ⟨H, -⟩ := (show Hp S0 σ0 σ7 [Ch.own 0 0 (Sl a5 xs3 c6) xs3, Ch.own n0 n0 (Sl (some ⟨b2, 0, none⟩) ([(Ck.1, Ck.2)] : List (Int × Int)) 1) ([(Ck.1, Ck.2)] : List (Int × Int)), Ch.bx Dt Du Dv [(Sl Dr Ai Ds)] Dw Dx] ∧ Md (fun i => (cov []) i ∨ (fun b => blk (Sl Dr Ai Ds) = some b) i) σ0 σ7 from hJ)
  clear hJ Hs
  rw [fr_lookL (L := [(0, (pt Du Dv)), (4, (pt Du Dv)), (11, (Sl a5 xs3 c6))]) ⟨e0, e4, e11, trivial⟩]
  clear hoff hrel e0 e4 e11
  refine st (v := (pt Du Dv)) (rv_nilCheck rfl) ?_
  refine st_exS (ex_store_box (k := 0) (cs := [(Sl Dr Ai Ds)]) (vs := [(Sl a5 xs3 c6)]) (cs' := [(Sl a5 xs3 c6)]) H (i := 2) rfl ti114 rfl rfl rfl rfl rfl (Nat.le_of_ble_eq_true rfl) (by simp [plain]) rfl) wn ?_
  rintro σ8 ⟨H, -⟩
  refine w_end ?_
  obtain rfl := sj h
  exact fin_end (v := (.tuple #[])) (results_ok Tryz.results200 res_nil rfl) ⟨a5, c6, rfl, rfl⟩ (H.sel' [0, 1] rfl rfl)

theorem c_impl_hitHeap_Len {Ai : List (Int × Int)} {Dr : Option Addr} {Ds : Nat} {r : Int} (h : M.impl_hitHeap_Len Ai = some r) :
    Cal2 Tryz.prog 195 [(Sl Dr Ai Ds)] [Ch.ro 0 (Sl Dr Ai Ds) Ai] (fun n0 v L => v = (I r) ∧ L = []) := by
 refine cal2 (n := 5) Tryz.func195 rfl rfl rfl rfl ?_
 intro S0 σ0 n0 hn0 H
 unfold M.impl_hitHeap_Len at h
 refine c_seq (rg (sa (I 0) rfl (w_end (q_then (c_seq (rg (sm (Sl Dr Ai Ds) rfl (st (v := (I (Ai.length : Int))) (rv_len Tryz.underlying114 rfl) (sa (I (Ai.length : Int)) rfl (w_end (q_then ?_)))))))))))
 refine c_ret ?_
 obtain rfl := sj h
 exact fin_ret (v := (I (Ai.length : Int))) (results_ok Tryz.results195 (res_tmp (v := (I (Ai.length : Int))) rfl res_nil) rfl) ⟨rfl, rfl⟩ (H.sel' [] rfl rfl)

theorem c_impl_hitHeap_Less {Ai : List (Int × Int)} {Dy : Int} {Dz : Int} {Dr : Option Addr} {Ds : Nat} {r : Bool} (h : M.impl_hitHeap_Less Ai Dy Dz = some r) :
    Cal2 Tryz.prog 196 [(Sl Dr Ai Ds), (I Dy), (I Dz)] [Ch.ro 0 (Sl Dr Ai Ds) Ai] (fun n0 v L => v = (B r) ∧ L = []) := by
 refine cal2 (n := 17) Tryz.func196 rfl rfl rfl rfl ?_
 intro S0 σ0 n0 hn0 H
 unfold M.impl_hitHeap_Less at h
 refine c_seq (rg (sa (B false) rfl (w_end (q_then (c_seq ?_)))))
 refine rgP (σ := σ0) 8 (by kernel_rfl) (by kernel_rfl) (by kernel_rfl) ?_
 refine sq (v := (Sl Dr Ai Ds)) (rv_move rfl) (sq (v := (I Dy)) (rv_move rfl) ?_)
 revert h; refine br fun x1 hx2 h => ?_
 obtain ⟨b4, o5, hi3, -⟩ := (H.ro 0 rfl).ix hx2
 refine sq (v := (pt b4 o5)) (rv_ix Tryz.underlying114 ti44 rfl rfl hi3) ?_
 obtain ⟨_, ⟨_, _, rfl, rfl, rfl⟩, hl6, hc7⟩ := ((H.ro 0 rfl).at hx2 hi3).cells
 refine sq (v := (.agg #[(I x1.1), (I x1.2)])) (rv_load Tryz.underlying44 rfl ti44 rfl hl6 hc7) (sq (v := (Sl Dr Ai Ds)) (rv_move rfl) (sq (v := (I Dz)) (rv_move rfl) ?_))
 revert h; refine br fun x8 hx9 h => ?_
 obtain ⟨b11, o12, hi10, -⟩ := (H.ro 0 rfl).ix hx9
 refine sq (v := (pt b11 o12)) (rv_ix Tryz.underlying114 ti44 rfl rfl hi10) ?_
 obtain ⟨_, ⟨_, _, rfl, rfl, rfl⟩, hl13, hc14⟩ := ((H.ro 0 rfl).at hx9 hi10).cells
 refine sq (v := (.agg #[(I x8.1), (I x8.2)])) (rv_load Tryz.underlying44 rfl ti44 rfl hl13 hc14) (sq_end ?_)
 intro σ15 hm16
 replace H := H.grow (hm16.mono fun _ h => h); clear hm16
 revert h; refine br fun r17 hx18 h => ?_
 have hc19 := c_impl_compareHits hx18
 refine st_call (cx_call hc19 (ent_f hc19.fn rfl) hn0 (H.sel' [0] rfl rfl : Hp S0 σ0 _ ([] ++ _))) wn ?_
 rintro _ σ20 ⟨_, ⟨rfl, rfl⟩, H, -⟩
 replace H : Hp _ _ _ [_] := H
 refine st (v := (B (decide (0 < r17)))) (rv_gtr (a := r17) (b := 0) rfl rfl) (sa (B (decide (0 < r17))) rfl (w_end (q_then (c_ret ?_))))
 obtain rfl := sj h
 exact fin_ret (v := (B (decide (0 < r17)))) (results_ok Tryz.results196 (res_tmp (v := (B (decide (0 < r17)))) rfl res_nil) rfl) ⟨rfl, rfl⟩ (H.sel' [] rfl rfl)

theorem c_impl_hitHeap_Swap {Ai : List (Int × Int)} {Dy : Int} {Dz : Int} {Dr : Option Addr} {Ds : Nat} {r : (List (Int × Int))} (h : M.impl_hitHeap_Swap Ai Dy Dz = some r) :
    Cal2 Tryz.prog 197 [(Sl Dr Ai Ds), (I Dy), (I Dz)] [Ch.own 0 0 (Sl Dr Ai Ds) Ai] (fun n0 v L => v = (.tuple #[]) ∧ L = [Ch.own 0 0 (Sl Dr r Ds) r] ∧ r.length = Ai.length) := by
 refine cal2 (n := 20) Tryz.func197 rfl rfl rfl rfl ?_
 intro S0 σ0 n0 hn0 H
 unfold M.impl_hitHeap_Swap at h
 revert h; refine br fun x1 hx2 h => ?_
 obtain ⟨b4, o5, hi3, -⟩ := (H.own 0 rfl).ix hx2
 obtain ⟨_, ⟨_, _, rfl, rfl, rfl⟩, hl6, hc7⟩ := ((H.own 0 rfl).at hx2 hi3).cells
 revert h; refine br fun x8 hx9 h => ?_
 obtain ⟨b11, o12, hi10, -⟩ := (H.own 0 rfl).ix hx9
 obtain ⟨_, ⟨_, _, rfl, rfl, rfl⟩, hl13, hc14⟩ := ((H.own 0 rfl).at hx9 hi10).cells
 revert h; refine br fun x15 hx16 h => ?_
 obtain ⟨b18, o19, hi17, -⟩ := (H.own 0 rfl).ix hx16
 have Hs := H
 refine rg2 (σ := σ0) (Nm := Unit) 14 [13] [[false], [true]] [[(0, 0)], [(0, 0)], [(0, 0), (1, 1)], [(0, 0), (1, 1)], [(0, 0)], [(0, 0)], [(0, 0)], [(0, 0)], [(0, 0)], [(0, 0)], [(0, 0)], [(0, 0)], [(0, 0)], [(0, 1)]] 1 [fun _ => fun σm => Hp S0 σ0 σm [Ch.own 0 0 (Sl Dr Ai Ds) Ai] ∧ Md (cov []) σ0 σm, fun _ => fun σm => Hp S0 σ0 σm [Ch.own 0 0 (Sl Dr Ai Ds) (Ai.set Dy.toNat (x1.1, x1.2))] ∧ Md (fun i => (cov []) i ∨ (fun b => blk (Sl Dr Ai Ds) = some b) i) σ0 σm] [fun _ => (Sl Dr Ai Ds), fun _ => (I Dy), fun _ => (Sl Dr Ai Ds), fun _ => (I Dz), fun _ => (Sl Dr Ai Ds), fun _ => (I Dz), fun _ => (pt b4 o5), fun _ => (.agg #[(I x1.1), (I x1.2)]), fun _ => (Sl Dr Ai Ds), fun _ => (I Dy), fun _ => (pt b11 o12), fun _ => (.agg #[(I x8.1), (I x8.2)]), fun _ => (pt b18 o19), fun _ => undef] () (by kernel_rfl) (by kernel_rfl) ?_ ?_ ?_
 ·intro σm m0
  exact ⟨H.grow (m0.mono fun _ h => h.elim), m0⟩
 ·refine ac rfl (by
    intro k _nm ρ σm hJ hoff hdep
    have e0 := look_off (N := 20) (hoff 0 rfl) rfl
    exact dp_v (v := (Sl Dr Ai Ds)) wn (rv_move e0) rfl hJ) ?_
  refine ac rfl (by
    intro k _nm ρ σm hJ hoff hdep
    have e1 := look_off (N := 20) (hoff 1 rfl) rfl
    exact dp_v (v := (I Dy)) wn (rv_move e1) rfl hJ) ?_
  refine ac rfl (by
    intro k _nm ρ σm hJ hoff hdep
    have e0 := look_off (N := 20) (hoff 0 rfl) rfl
    exact dp_v (v := (Sl Dr Ai Ds)) wn (rv_move e0) rfl hJ) ?_
  refine ac rfl (by
    intro k _nm ρ σm hJ hoff hdep
    have e2 := look_off (N := 20) (hoff 2 rfl) rfl
    exact dp_v (v := (I Dz)) wn (rv_move e2) rfl hJ) ?_
  refine ac rfl (by
    intro k _nm ρ σm hJ hoff hdep
    have e0 := look_off (N := 20) (hoff 0 rfl) rfl
    exact dp_v (v := (Sl Dr Ai Ds)) wn (rv_move e0) rfl hJ) ?_
  refine ac rfl (by
    intro k _nm ρ σm hJ hoff hdep
    have e2 := look_off (N := 20) (hoff 2 rfl) rfl
    exact dp_v (v := (I Dz)) wn (rv_move e2) rfl hJ) ?_
  refine ac rfl (by
    intro k _nm ρ σm hJ hoff hdep
    have e10 := hdep 4 rfl rfl 10 rfl
    have e11 := hdep 5 rfl rfl 11 rfl
    exact dp_v (v := (pt b4 o5)) wn (rv_ix Tryz.underlying114 ti44 e10 e11 hi3) rfl hJ) ?_
  refine all_cons (by
    refine ⟨?_, ?_⟩
    ·intro _nm ρ σm hJ hoff hdep
     have e12 := hdep 6 rfl rfl 12 rfl
     obtain ⟨H, m⟩ := id hJ
     obtain ⟨_, ⟨_, _, rfl, rfl, rfl⟩, hl6, hc7⟩ := ((H.own 0 rfl).at hx2 hi3).cells
     exact dp_v (v := (.agg #[(I x1.1), (I x1.2)])) wn (rv_load Tryz.underlying44 rfl ti44 e12 hl6 hc7) rfl hJ
    trivial) ?_
  refine ac rfl (by
    intro k _nm ρ σm hJ hoff hdep
    have e0 := look_off (N := 20) (hoff 0 rfl) rfl
    exact dp_v (v := (Sl Dr Ai Ds)) wn (rv_move e0) rfl hJ) ?_
  refine ac rfl (by
    intro k _nm ρ σm hJ hoff hdep
    have e1 := look_off (N := 20) (hoff 1 rfl) rfl
    exact dp_v (v := (I Dy)) wn (rv_move e1) rfl hJ) ?_
  refine ac rfl (by
    intro k _nm ρ σm hJ hoff hdep
    have e14 := hdep 8 rfl rfl 14 rfl
    have e15 := hdep 9 rfl rfl 15 rfl
    exact dp_v (v := (pt b11 o12)) wn (rv_ix Tryz.underlying114 ti44 e14 e15 hi10) rfl hJ) ?_
  refine all_cons (by
    refine ⟨?_, ?_⟩
    ·intro _nm ρ σm hJ hoff hdep
     have e16 := hdep 10 rfl rfl 16 rfl
     obtain ⟨H, m⟩ := id hJ
     obtain ⟨_, ⟨_, _, rfl, rfl, rfl⟩, hl13, hc14⟩ := ((H.own 0 rfl).at hx9 hi10).cells
     exact dp_v (v := (.agg #[(I x8.1), (I x8.2)])) wn (rv_load Tryz.underlying44 rfl ti44 e16 hl13 hc14) rfl hJ
    trivial) ?_
  refine ac rfl (by
    intro k _nm ρ σm hJ hoff hdep
    have e6 := hdep 0 rfl rfl 6 rfl
    have e7 := hdep 1 rfl rfl 7 rfl
    exact dp_v (v := (pt b18 o19)) wn (rv_ix Tryz.underlying114 ti44 e6 e7 hi17) rfl hJ) ?_
  refine all_cons (by
    refine ⟨?_, ?_⟩
    ·intro _nm ρ σm hJ hoff hdep
     have e18 := hdep 12 rfl rfl 18 rfl
     have e13 := hdep 7 rfl rfl 13 rfl
     obtain ⟨H, m⟩ := id hJ
     refine dp_exS wn rfl (ex_store_own (e' := (x1.1, x1.2)) (vs := [(I x1.1), (I x1.2)]) (k := 0) H (i := 0) rfl ti44 hx16 hi17 e18 rfl e13 rfl rfl (Nat.le_of_ble_eq_true rfl) (by simp [plain]) (by rintro _ ⟨_, _, rfl, rfl, rfl⟩; exact ⟨[(I x1.1)], [(I x1.2)], rfl, rfl, rfl⟩)) ?_
     rintro σq ⟨H2, m2⟩
     exact ⟨_, (), rfl, ⟨H2.sel' [0] rfl rfl, m.comp m2⟩, stab [0, 1, 2, 3, 4, 5, 6, 7, 8, 9, 10, 11, 12] (by kernel_rfl) ⟨rfl, rfl, rfl, rfl, rfl, rfl, rfl, rfl, rfl, rfl, rfl, rfl, rfl, trivial⟩⟩
    trivial) ?_
  exact all_nil
 ·intro _nm ρ σ20 hJ hoff hrel
  have e0 := look_off (N := 20) (hoff 0 rfl) rfl
  have e8 := hrel 2 rfl 8 rfl
  have e9 := hrel 3 rfl 9 rfl
  have e17 := hrel 11 rfl 17 rfl
  obtain ⟨H, -⟩ := (show Hp S0 σ0 σ20 [Ch.own 0 0 (Sl Dr Ai Ds) (Ai.set Dy.toNat (x1.1, x1.2))] ∧ Md (fun i => (cov []) i ∨ (fun b => blk (Sl Dr Ai Ds) = some b) i) σ0 σ20 from hJ)
  clear hJ Hs
  rw [fr_lookL (L := [(0, (Sl Dr Ai Ds)), (8, (Sl Dr Ai Ds)), (9, (I Dz)), (17, (.agg #[(I x8.1), (I x8.2)]))]) ⟨e0, e8, e9, e17, trivial⟩]
  clear hoff hrel e0 e8 e9 e17
  have hsl : (Sl Dr Ai Ds) = (Sl Dr (Ai.set Dy.toNat (x1.1, x1.2)) Ds) := sl_len (by simp)
  rw [hsl]; rw [hsl] at H; clear hsl
  revert h; refine br fun x21 hx22 h => ?_
  obtain ⟨b24, o25, hi23, -⟩ := (H.own 0 rfl).ix hx22
  refine st (v := (pt b24 o25)) (rv_ix Tryz.underlying114 ti44 rfl rfl hi23) ?_
  refine st_exS (ex_store_own (e' := (x8.1, x8.2)) (vs := [(I x8.1), (I x8.2)]) (k := 0) H (i := 0) rfl ti44 hx22 hi23 rfl rfl rfl rfl rfl (Nat.le_of_ble_eq_true rfl) (by simp [plain]) (by rintro _ ⟨_, _, rfl, rfl, rfl⟩; exact ⟨[(I x8.1)], [(I x8.2)], rfl, rfl, rfl⟩)) wn ?_
  rintro σ26 ⟨H, -⟩
  have hsl : (Sl Dr (Ai.set Dy.toNat (x1.1, x1.2)) Ds) = (Sl Dr ((Ai.set Dy.toNat (x1.1, x1.2)).set Dz.toNat (x8.1, x8.2)) Ds) := sl_len List.length_set.symm
  rw [hsl]; rw [hsl] at H; clear hsl
  refine w_end ?_
  obtain rfl := sj h
  exact fin_end (v := (.tuple #[])) (results_ok Tryz.results197 res_nil rfl) ⟨rfl, rfl, (List.length_set.trans List.length_set)⟩ (H.sel' [0] rfl rfl)

theorem c_container_heap_up__impl_hitHeap {Ai : List (Int × Int)} {Ea : Int} {Dr : Option Addr} {Ds : Nat} {Dt Du Dv : Nat} {Dw Dx : List Value} {r : (List (Int × Int))} (h : M.container_heap_up__impl_hitHeap Ai Ea = some r) :
    Cal2 Tryz.prog 151 [(.iface 131 (pt Du Dv)), (I Ea)] [Ch.bx Dt Du Dv [(Sl Dr Ai Ds)] Dw Dx, Ch.own 0 0 (Sl Dr Ai Ds) Ai] (fun n0 v L => ∃ (az1 : Option Addr), ∃ (cz2 : Nat), v = (.tuple #[]) ∧ L = [Ch.bx Dt Du Dv [(Sl az1 r cz2)] Dw Dx, Ch.own 0 0 (Sl az1 r cz2) r]) := by
 refine cal2 (n := 23) Tryz.func151 rfl rfl rfl rfl ?_
 intro S0 σ0 n0 hn0 H
 unfold M.container_heap_up__impl_hitHeap at h
 obtain ⟨o1, hj, h'⟩ := bind_some h
 clear h
 refine c_cut (fun e a w => e = .normal ∧ ∃ (ρ : Nat → Value) (σ : St) (aj1 : Option Addr) (cj2 : Nat), a = fr 23 (updL ρ [(0, (.iface 131 (pt Du Dv)))]) ∧ w = σ.w ∧ Hp S0 σ0 σ [Ch.bx Dt Du Dv [(Sl aj1 o1 cj2)] Dw Dx, Ch.own 0 0 (Sl aj1 o1 cj2) o1]) ?_ ?_
 ·clear h'
  rename _ = some o1 => h
  refine c_blk (wp_loopM _ h (fun s2 a w => ∃ (ρ : Nat → Value) (σ : St) (aj1 : Option Addr) (cj2 : Nat), a = fr 23 (updL ρ [(0, (.iface 131 (pt Du Dv))), (1, (I s2.2))]) ∧ w = σ.w ∧ Hp S0 σ0 σ [Ch.bx Dt Du Dv [(Sl aj1 s2.1 cj2)] Dw Dx, Ch.own 0 0 (Sl aj1 s2.1 cj2) s2.1]) ⟨_, σ0, Dr, Ds, fr_join ⟨rfl, rfl, trivial⟩, rfl, H.sel' [0, 1] rfl rfl⟩ ?_)
  clear h H
  rintro s2 a w o ⟨ρ, σ3, a4, c5, rfl, rfl, H⟩ h hres
  refine c_blk (c_seq (rg (sm (I s2.2) rfl (st (v := (I (w64 (s2.2 - 1)))) (rv_sub (a := s2.2) (b := 1) rfl rfl) ?_))))
  refine st (v := (I (w64 ((w64 (s2.2 - 1)).tdiv 2)))) (rv_quo (a := (w64 (s2.2 - 1))) (b := 2) rfl rfl (by decide)) ?_
  refine sa (I (w64 ((w64 (s2.2 - 1)).tdiv 2))) rfl (w_end (q_then (c_seq (c_seq ?_))))
  obtain ⟨o6, hj, h'⟩ := bind_some h
  clear h
  refine c_cut (fun e a w => e = .normal ∧ ∃ (ρ : Nat → Value) (σ : St), a = fr 23 (updL ρ [(0, (.iface 131 (pt Du Dv))), (1, (I s2.2)), (4, (I (w64 ((w64 (s2.2 - 1)).tdiv 2)))), (17, (B o6))]) ∧ w = σ.w ∧ Hp S0 σ0 σ [Ch.own 0 0 (Sl a4 s2.1 c5) s2.1, Ch.bx Dt Du Dv [(Sl a4 s2.1 c5)] Dw Dx]) ?_ ?_
  ·clear h'
   rename _ = some o6 => h
   refine rg (sm (I (w64 ((w64 (s2.2 - 1)).tdiv 2))) rfl (sm (I s2.2) rfl (st (v := (B ((w64 ((w64 (s2.2 - 1)).tdiv 2)) == s2.2))) (rv_eql (a := (w64 ((w64 (s2.2 - 1)).tdiv 2))) (b := s2.2) rfl rfl) (sm (B ((w64 ((w64 (s2.2 - 1)).tdiv 2)) == s2.2)) rfl ?_))))
   rcases Bool.eq_false_or_eq_true ((w64 ((w64 (s2.2 - 1)).tdiv 2)) == s2.2) with hb7 | hb7
   ·replace h := bif_t hb7 h
    refine st_skip (congrArg some hb7) (st_skip (congrArg some hb7) (st_skip (congrArg some hb7) (st_skip (congrArg some hb7) (st_skip (congrArg some hb7) (st (v := (B true)) (rv_pick_t (congrArg B hb7) rfl) (w_end ?_))))))
    obtain rfl := sj h
    exact ⟨rfl, _, σ3, fr_join ⟨rfl, rfl, rfl, rfl, trivial⟩, rfl, H.sel' [1, 0] rfl rfl⟩
   ·replace h := bif_f hb7 h
    refine st_g (v := (.iface 131 (pt Du Dv))) (congrArg some hb7) (rv_move rfl) (st_g (v := (I s2.2)) (congrArg some hb7) (rv_move rfl) (st_g (v := (I (w64 ((w64 (s2.2 - 1)).tdiv 2)))) (congrArg some hb7) (rv_move rfl) ?_))
    revert h; refine br fun r8 hx9 h => ?_
    have hc10 := c_impl_hitHeap_Less (Dr := a4) (Ds := c5) hx9
    have hle := Nat.le_trans hn0 H.size
    refine st_call (cx_lend (Loan.lend Loan.nil) hc10 (ent_iv hc10.fn (by kernel_rfl) Tryz.underlying131 Tryz.underlying114 rfl rfl (H.cell (u := (Sl a4 s2.1 c5)) (o' := Dv) 0 0 rfl rfl rfl) rfl) (show Hp S0 σ0 _ ([Ch.own 0 0 (Sl a4 s2.1 c5) s2.1] ++ ([] ++ [Ch.bx Dt Du Dv [(Sl a4 s2.1 c5)] Dw Dx])) from (H.sel' [1, 0] rfl rfl)) (by rintro _ _ _ ⟨rfl, rfl⟩; exact trivial)) (wanted_yes rfl (by exact (congrArg some hb7))) ?_
    rintro _ σ11 ⟨_, ⟨rfl, rfl⟩, H, -, -⟩
    replace H : Hp _ _ _ [_, _] := H
    clear hle
    replace H : Hp _ _ _ [_, _] := H
    refine st_g (v := (B (!r8))) (congrArg some hb7) (rv_not rfl) (st (v := (B (!r8))) (rv_pick_f (congrArg B hb7) rfl) (w_end ?_))
    obtain rfl := sj h
    exact ⟨rfl, _, σ11, fr_join ⟨rfl, rfl, rfl, rfl, trivial⟩, rfl, H.sel' [0, 1] rfl rfl⟩
  ·clear hj
   have h := h'
   clear h' H
   rintro e a w ⟨rfl, ρ, σ12, rfl, rfl, H⟩
   refine q_then ?_
   refine cd_cond o6 rfl (fun hb13 => ?_) (fun hb13 => ?_)
   ·replace h := bif_t hb13 h
    refine c_exit (q_then_x ?_)
    refine q_blk_x (by decide) ?_
    refine q_then_x (q_blk_hit ?_)
    obtain rfl := sj h
    obtain rfl := hres _ rfl
    exact ⟨rfl, _, σ12, a4, c5, fr_join ⟨rfl, trivial⟩, rfl, H.sel' [1, 0] rfl rfl⟩
   ·replace h := bif_f hb13 h
    refine c_skip (q_then (c_seq (rg (sm (.iface 131 (pt Du Dv)) rfl (sm (I (w64 ((w64 (s2.2 - 1)).tdiv 2))) rfl (sm (I s2.2) rfl ?_))))))
    revert h; refine br fun r14 hx15 h => ?_
    have hc16 := c_impl_hitHeap_Swap (Dr := a4) (Ds := c5) hx15
    refine st_call (cx_call hc16 (ent_iv hc16.fn (by kernel_rfl) Tryz.underlying131 Tryz.underlying114 rfl rfl (H.cell (u := (Sl a4 s2.1 c5)) (o' := Dv) 1 0 rfl rfl rfl) rfl) hn0 (H.sel' [0, 1] rfl rfl : Hp S0 σ0 _ ([_] ++ _))) wn ?_
    rintro _ σ18 ⟨_, ⟨rfl, rfl, hn17⟩, H, -⟩
    replace H : Hp _ _ _ [_, _] := H
    have hsl : (Sl a4 s2.1 c5) = (Sl a4 r14 c5) := sl_len hn17.symm
    try rw [hsl]
    try rw [hsl] at H
    clear hsl
    refine w_end (q_then (rg (sm (I (w64 ((w64 (s2.2 - 1)).tdiv 2))) rfl (sa (I (w64 ((w64 (s2.2 - 1)).tdiv 2))) rfl (w_end (q_blk (q_then ?_)))))))
    obtain rfl := sj h
    exact ⟨_, rfl, _, σ18, a4, c5, fr_join ⟨rfl, rfl, trivial⟩, rfl, H.sel' [1, 0] rfl rfl⟩
 ·clear hj
  have h := h'
  clear h' H
  rintro e a w ⟨rfl, ρ, σ19, a20, c21, rfl, rfl, H⟩
  obtain rfl := sj h
  exact fin_end (v := (.tuple #[])) (results_ok Tryz.results151 res_nil rfl) ⟨a20, c21, rfl, rfl⟩ (H.sel' [0, 1] rfl rfl)

theorem c_container_heap_Push__impl_hitHeap__impl_Hit {Ai : List (Int × Int)} {Ck : Int × Int} {Dr : Option Addr} {Ds : Nat} {Dt Du Dv : Nat} {Dw Dx : List Value} {r : (List (Int × Int))} (h : M.container_heap_Push__impl_hitHeap__impl_Hit Ai Ck = some r) :
    Cal2 Tryz.prog 138 [(.iface 131 (pt Du Dv)), (.iface 44 (.agg #[(I Ck.1), (I Ck.2)]))] [Ch.bx Dt Du Dv [(Sl Dr Ai Ds)] Dw Dx, Ch.own 0 0 (Sl Dr Ai Ds) Ai] (fun n0 v L => ∃ (az1 : Option Addr), ∃ (cz2 : Nat), v = (.tuple #[]) ∧ L = [Ch.bx Dt Du Dv [(Sl az1 r cz2)] Dw Dx, Ch.own 0 0 (Sl az1 r cz2) r]) := by
 refine cal2 (n := 12) Tryz.func138 rfl rfl rfl rfl ?_
 intro S0 σ0 n0 hn0 H
 unfold M.container_heap_Push__impl_hitHeap__impl_Hit at h
 refine c_seq (rg (sm (.iface 131 (pt Du Dv)) rfl (sm (.iface 44 (.agg #[(I Ck.1), (I Ck.2)])) rfl ?_)))
 revert h; refine br fun r1 hx2 h => ?_
 have hc3 := c_impl_hitHeap_Push__impl_Hit (Dt := Dt) (Du := Du) (Dv := Dv) (Dw := Dw) (Dx := Dx) (Dr := Dr) (Ds := Ds) hx2
 refine st_call (cx_call hc3 (ent_ip hc3.fn (by kernel_rfl) Tryz.underlying131 rfl rfl) hn0 (H.sel' [0, 1] rfl rfl : Hp S0 σ0 _ ([_, _] ++ _))) wn ?_
 rintro _ σ6 ⟨_, ⟨a4, c5, rfl, rfl⟩, H, -⟩
 replace H : Hp _ _ _ [_, _] := H
 refine w_end (q_then (rg (sm (.iface 131 (pt Du Dv)) rfl (sm (.iface 131 (pt Du Dv)) rfl ?_))))
 revert h; refine br fun r7 hx8 h => ?_
 have hc9 := c_impl_hitHeap_Len (Dr := a4) (Ds := c5) hx8
 have hle := Nat.le_trans hn0 H.size
 refine st_call (cx_lend (Loan.lend Loan.nil) hc9 (ent_iv hc9.fn (by kernel_rfl) Tryz.underlying131 Tryz.underlying114 rfl rfl (H.cell (u := (Sl a4 r1 c5)) (o' := Dv) 0 0 rfl rfl rfl) rfl) (show Hp S0 σ0 _ ([Ch.own 0 0 (Sl a4 r1 c5) r1] ++ ([] ++ [Ch.bx Dt Du Dv [(Sl a4 r1 c5)] Dw Dx])) from (H.sel' [1, 0] rfl rfl)) (by rintro _ _ _ ⟨rfl, rfl⟩; exact trivial)) wn ?_
 rintro _ σ10 ⟨_, ⟨rfl, rfl⟩, H, -, -⟩
 replace H : Hp _ _ _ [_, _] := H
 clear hle
 replace H : Hp _ _ _ [_, _] := H
 refine st (v := (I (w64 (r7 - 1)))) (rv_sub (a := r7) (b := 1) rfl rfl) ?_
 revert h; refine br fun r11 hx12 h => ?_
 have hc13 := c_container_heap_up__impl_hitHeap (Dt := Dt) (Du := Du) (Dv := Dv) (Dw := Dw) (Dx := Dx) (Dr := a4) (Ds := c5) hx12
 refine st_call (cx_call hc13 (ent_f hc13.fn rfl) hn0 (H.sel' [1, 0] rfl rfl : Hp S0 σ0 _ ([_, _] ++ _))) wn ?_
 rintro _ σ16 ⟨_, ⟨a14, c15, rfl, rfl⟩, H, -⟩
 replace H : Hp _ _ _ [_, _] := H
 refine w_end ?_
 obtain rfl := sj h
 exact fin_end (v := (.tuple #[])) (results_ok Tryz.results138 res_nil rfl) ⟨a14, c15, rfl, rfl⟩ (H.sel' [0, 1] rfl rfl)

theorem c_container_heap_down__impl_hitHeap {Ai : List (Int × Int)} {Eb : Int} {Ca : Int} {Dr : Option Addr} {Ds : Nat} {Dt Du Dv : Nat} {Dw Dx : List Value} {r : Bool × (List (Int × Int))} (h : M.container_heap_down__impl_hitHeap Ai Eb Ca = some r) :
    Cal2 Tryz.prog 152 [(.iface 131 (pt Du Dv)), (I Eb), (I Ca)] [Ch.bx Dt Du Dv [(Sl Dr Ai Ds)] Dw Dx, Ch.own 0 0 (Sl Dr Ai Ds) Ai] (fun n0 v L => ∃ (az1 : Option Addr), ∃ (cz2 : Nat), v = (B r.1) ∧ L = [Ch.bx Dt Du Dv [(Sl az1 r.2 cz2)] Dw Dx, Ch.own 0 0 (Sl az1 r.2 cz2) r.2]) := by
 refine cal2 (n := 48) Tryz.func152 rfl rfl rfl rfl ?_
 intro S0 σ0 n0 hn0 H
 unfold M.container_heap_down__impl_hitHeap at h
 refine c_seq (rg (sa (B false) rfl (w_end (q_then (c_seq (rg (sm (I Eb) rfl (sa (I Eb) rfl (w_end (q_then (c_seq ?_)))))))))))
 obtain ⟨o1, hj, h'⟩ := bind_some h
 clear h
 refine c_cut (fun e a w => e = .normal ∧ ∃ (ρ : Nat → Value) (σ : St) (aj1 : Option Addr) (cj2 : Nat), a = fr 48 (updL ρ [(0, (.iface 131 (pt Du Dv))), (1, (I Eb)), (7, (I o1.2))]) ∧ w = σ.w ∧ Hp S0 σ0 σ [Ch.bx Dt Du Dv [(Sl aj1 o1.1 cj2)] Dw Dx, Ch.own 0 0 (Sl aj1 o1.1 cj2) o1.1]) ?_ ?_
 ·clear h'
  rename _ = some o1 => h
  refine c_blk (wp_loopM _ h (fun s2 a w => ∃ (ρ : Nat → Value) (σ : St) (aj1 : Option Addr) (cj2 : Nat), a = fr 48 (updL ρ [(0, (.iface 131 (pt Du Dv))), (1, (I Eb)), (2, (I Ca)), (7, (I s2.2))]) ∧ w = σ.w ∧ Hp S0 σ0 σ [Ch.bx Dt Du Dv [(Sl aj1 s2.1 cj2)] Dw Dx, Ch.own 0 0 (Sl aj1 s2.1 cj2) s2.1]) ⟨_, σ0, Dr, Ds, fr_join ⟨rfl, rfl, rfl, rfl, trivial⟩, rfl, H.sel' [0, 1] rfl rfl⟩ ?_)
  clear h H
  rintro s2 a w o ⟨ρ, σ3, a4, c5, rfl, rfl, H⟩ h hres
  refine c_blk (c_seq (rg (sm (I s2.2) rfl (st (v := (I (w64 (2 * s2.2)))) (rv_mul (a := 2) (b := s2.2) rfl rfl) (st (v := (I (w64 ((w64 (2 * s2.2)) + 1)))) (rv_add (a := (w64 (2 * s2.2))) (b := 1) rfl rfl) (sa (I (w64 ((w64 (2 * s2.2)) + 1))) rfl (w_end (q_then (c_seq (c_seq ?_))))))))))
  obtain ⟨o6, hj, h'⟩ := bind_some h
  clear h
  refine c_cut (fun e a w => e = .normal ∧ ∃ (ρ : Nat → Value) (σ : St), a = fr 48 (updL ρ [(0, (.iface 131 (pt Du Dv))), (1, (I Eb)), (2, (I Ca)), (7, (I s2.2)), (8, (I (w64 ((w64 (2 * s2.2)) + 1)))), (21, (B o6))]) ∧ w = σ.w ∧ Hp S0 σ0 σ [Ch.own 0 0 (Sl a4 s2.1 c5) s2.1, Ch.bx Dt Du Dv [(Sl a4 s2.1 c5)] Dw Dx]) ?_ ?_
  ·clear h'
   rename _ = some o6 => h
   refine rg (sm (I (w64 ((w64 (2 * s2.2)) + 1))) rfl (sm (I Ca) rfl (st (v := (B (decide (Ca ≤ (w64 ((w64 (2 * s2.2)) + 1)))))) (rv_geq (a := (w64 ((w64 (2 * s2.2)) + 1))) (b := Ca) rfl rfl) (sm (B (decide (Ca ≤ (w64 ((w64 (2 * s2.2)) + 1))))) rfl ?_))))
   rcases Bool.eq_false_or_eq_true (decide (Ca ≤ (w64 ((w64 (2 * s2.2)) + 1)))) with hb7 | hb7
   ·replace h := bif_t hb7 h
    refine st_skip (congrArg some hb7) (st_skip (congrArg some hb7) (st (v := (B true)) (rv_pick_t (congrArg B hb7) rfl) (w_end ?_)))
    obtain rfl := sj h
    exact ⟨rfl, _, σ3, fr_join ⟨rfl, rfl, rfl, rfl, rfl, rfl, trivial⟩, rfl, H.sel' [1, 0] rfl rfl⟩
   ·replace h := bif_f hb7 h
    refine st_g (v := (I (w64 ((w64 (2 * s2.2)) + 1)))) (congrArg some hb7) (rv_move rfl) (st_g (v := (B (decide ((w64 ((w64 (2 * s2.2)) + 1)) < 0)))) (congrArg some hb7) (rv_lss (a := (w64 ((w64 (2 * s2.2)) + 1))) (b := 0) rfl rfl) (st (v := (B (decide ((w64 ((w64 (2 * s2.2)) + 1)) < 0)))) (rv_pick_f (congrArg B hb7) rfl) (w_end ?_)))
    obtain rfl := sj h
    exact ⟨rfl, _, σ3, fr_join ⟨rfl, rfl, rfl, rfl, rfl, rfl, trivial⟩, rfl, H.sel' [1, 0] rfl rfl⟩
  ·clear hj
   have h := h'
   clear h' H
   rintro e a w ⟨rfl, ρ, σ8, rfl, rfl, H⟩
   refine q_then ?_
   refine cd_cond o6 rfl (fun hb9 => ?_) (fun hb9 => ?_)
   ·replace h := bif_t hb9 h
    refine c_exit (q_then_x ?_)
    refine q_blk_x (by decide) ?_
    refine q_then_x (q_blk_hit ?_)
    obtain rfl := sj h
    obtain rfl := hres _ rfl
    exact ⟨rfl, _, σ8, a4, c5, fr_join ⟨rfl, rfl, rfl, trivial⟩, rfl, H.sel' [1, 0] rfl rfl⟩
   ·replace h := bif_f hb9 h
    refine c_skip (q_then (c_seq (rg (sm (I (w64 ((w64 (2 * s2.2)) + 1))) rfl (sa (I (w64 ((w64 (2 * s2.2)) + 1))) rfl (w_end (q_then (c_seq (c_seq (rg (sm (I (w64 ((w64 (2 * s2.2)) + 1))) rfl ?_)))))))))))
    refine st (v := (I (w64 ((w64 ((w64 (2 * s2.2)) + 1)) + 1)))) (rv_add (a := (w64 ((w64 (2 * s2.2)) + 1))) (b := 1) rfl rfl) (sa (I (w64 ((w64 ((w64 (2 * s2.2)) + 1)) + 1))) rfl (w_end (q_then (c_seq ?_))))
    obtain ⟨o10, hj, h'⟩ := bind_some h
    clear h
    refine c_cut (fun e a w => e = .normal ∧ ∃ (ρ : Nat → Value) (σ : St), a = fr 48 (updL ρ [(0, (.iface 131 (pt Du Dv))), (1, (I Eb)), (2, (I Ca)), (7, (I s2.2)), (9, (I (w64 ((w64 (2 * s2.2)) + 1)))), (10, (I (w64 ((w64 ((w64 (2 * s2.2)) + 1)) + 1)))), (33, (B o10))]) ∧ w = σ.w ∧ Hp S0 σ0 σ [Ch.own 0 0 (Sl a4 s2.1 c5) s2.1, Ch.bx Dt Du Dv [(Sl a4 s2.1 c5)] Dw Dx]) ?_ ?_
    ·clear h'
     rename _ = some o10 => h
     refine rg (sm (I (w64 ((w64 ((w64 (2 * s2.2)) + 1)) + 1))) rfl (sm (I Ca) rfl (st (v := (B (decide ((w64 ((w64 ((w64 (2 * s2.2)) + 1)) + 1)) < Ca)))) (rv_lss (a := (w64 ((w64 ((w64 (2 * s2.2)) + 1)) + 1))) (b := Ca) rfl rfl) (sm (B (decide ((w64 ((w64 ((w64 (2 * s2.2)) + 1)) + 1)) < Ca))) rfl ?_))))
     rcases Bool.eq_false_or_eq_true (decide ((w64 ((w64 ((w64 (2 * s2.2)) + 1)) + 1)) < Ca)) with hb11 | hb11
     ·replace h := bif_t hb11 h
      refine st_g (v := (.iface 131 (pt Du Dv))) (congrArg some hb11) (rv_move rfl) (st_g (v := (I (w64 ((w64 ((w64 (2 * s2.2)) + 1)) + 1)))) (congrArg some hb11) (rv_move rfl) (st_g (v := (I (w64 ((w64 (2 * s2.2)) + 1)))) (congrArg some hb11) (rv_move rfl) ?_))
      revert h; refine br fun r12 hx13 h => ?_
      have hc14 := c_impl_hitHeap_Less (Dr := a4) (Ds := c5) hx13
      have hle := Nat.le_trans hn0 H.size
      refine st_call (cx_lend (Loan.lend Loan.nil) hc14 (ent_iv hc14.fn (by kernel_rfl) Tryz.underlying131 Tryz.underlying114 rfl rfl (H.cell (u := (Sl a4 s2.1 c5)) (o' := Dv) 1 0 rfl rfl rfl) rfl) (show Hp S0 σ0 _ ([Ch.own 0 0 (Sl a4 s2.1 c5) s2.1] ++ ([] ++ [Ch.bx Dt Du Dv [(Sl a4 s2.1 c5)] Dw Dx])) from (H.sel' [0, 1] rfl rfl)) (by rintro _ _ _ ⟨rfl, rfl⟩; exact trivial)) (wanted_yes rfl (by exact (congrArg some hb11))) ?_
      rintro _ σ15 ⟨_, ⟨rfl, rfl⟩, H, -, -⟩
      replace H : Hp _ _ _ [_, _] := H
      clear hle
      replace H : Hp _ _ _ [_, _] := H
      refine st (v := (B r12)) (rv_pick_t (congrArg B hb11) rfl) (w_end ?_)
      obtain rfl := sj h
      exact ⟨rfl, _, σ15, fr_join ⟨rfl, rfl, rfl, rfl, rfl, rfl, rfl, trivial⟩, rfl, H.sel' [0, 1] rfl rfl⟩
     ·replace h := bif_f hb11 h
      refine st_skip (congrArg some hb11) (st_skip (congrArg some hb11) (st_skip (congrArg some hb11) (st_skip (congrArg some hb11) (st (v := (B false)) (rv_pick_f (congrArg B hb11) rfl) (w_end ?_)))))
      obtain rfl := sj h
      exact ⟨rfl, _, σ8, fr_join ⟨rfl, rfl, rfl, rfl, rfl, rfl, rfl, trivial⟩, rfl, H.sel' [0, 1] rfl rfl⟩
    ·clear hj
     have h := h'
     clear h' H
     rintro e a w ⟨rfl, ρ, σ16, rfl, rfl, H⟩
     refine q_then ?_
     obtain ⟨o17, hj, h'⟩ := bind_some h
     clear h
     refine c_cut (fun e a w => e = .normal ∧ ∃ (ρ : Nat → Value) (σ : St), a = fr 48 (updL ρ [(0, (.iface 131 (pt Du Dv))), (1, (I Eb)), (2, (I Ca)), (7, (I s2.2)), (9, (I o17))]) ∧ w = σ.w ∧ Hp S0 σ0 σ [Ch.own 0 0 (Sl a4 s2.1 c5) s2.1, Ch.bx Dt Du Dv [(Sl a4 s2.1 c5)] Dw Dx]) ?_ ?_
     ·clear h'
      rename _ = some o17 => h
      refine cd_cond o10 rfl (fun hb18 => ?_) (fun hb18 => ?_)
      ·replace h := bif_t hb18 h
       refine rg (sm (I (w64 ((w64 ((w64 (2 * s2.2)) + 1)) + 1))) rfl (sa (I (w64 ((w64 ((w64 (2 * s2.2)) + 1)) + 1))) rfl (w_end ?_)))
       obtain rfl := sj h
       exact ⟨rfl, _, σ16, fr_join ⟨rfl, rfl, rfl, rfl, rfl, trivial⟩, rfl, H.sel' [0, 1] rfl rfl⟩
      ·replace h := bif_f hb18 h
       refine c_skip ?_
       obtain rfl := sj h
       exact ⟨rfl, _, σ16, fr_join ⟨rfl, rfl, rfl, rfl, rfl, trivial⟩, rfl, H.sel' [0, 1] rfl rfl⟩
     ·clear hj
      have h := h'
      clear h' H
      rintro e a w ⟨rfl, ρ, σ19, rfl, rfl, H⟩
      refine q_then (c_seq (c_seq (rg (sm (.iface 131 (pt Du Dv)) rfl (sm (I o17) rfl (sm (I s2.2) rfl ?_))))))
      revert h; refine br fun r20 hx21 h => ?_
      have hc22 := c_impl_hitHeap_Less (Dr := a4) (Ds := c5) hx21
      have hle := Nat.le_trans hn0 H.size
      refine st_call (cx_lend (Loan.lend Loan.nil) hc22 (ent_iv hc22.fn (by kernel_rfl) Tryz.underlying131 Tryz.underlying114 rfl rfl (H.cell (u := (Sl a4 s2.1 c5)) (o' := Dv) 1 0 rfl rfl rfl) rfl) (show Hp S0 σ0 _ ([Ch.own 0 0 (Sl a4 s2.1 c5) s2.1] ++ ([] ++ [Ch.bx Dt Du Dv [(Sl a4 s2.1 c5)] Dw Dx])) from (H.sel' [0, 1] rfl rfl)) (by rintro _ _ _ ⟨rfl, rfl⟩; exact trivial)) wn ?_
      rintro _ σ23 ⟨_, ⟨rfl, rfl⟩, H, -, -⟩
      replace H : Hp _ _ _ [_, _] := H
      clear hle
      replace H : Hp _ _ _ [_, _] := H
      refine st (v := (B (!r20))) (rv_not rfl) (w_end (q_then ?_))
      refine cd_cond (!r20) rfl (fun hb24 => ?_) (fun hb24 => ?_)
      ·replace h := bif_t hb24 h
       refine c_exit (q_then_x ?_)
       refine q_blk_x (by decide) ?_
       refine q_then_x (q_blk_hit ?_)
       obtain rfl := sj h
       obtain rfl := hres _ rfl
       exact ⟨rfl, _, σ23, a4, c5, fr_join ⟨rfl, rfl, rfl, trivial⟩, rfl, H.sel' [1, 0] rfl rfl⟩
      ·replace h := bif_f hb24 h
       refine c_skip (q_then (c_seq (rg (sm (.iface 131 (pt Du Dv)) rfl (sm (I s2.2) rfl (sm (I o17) rfl ?_))))))
       revert h; refine br fun r25 hx26 h => ?_
       have hc27 := c_impl_hitHeap_Swap (Dr := a4) (Ds := c5) hx26
       refine st_call (cx_call hc27 (ent_iv hc27.fn (by kernel_rfl) Tryz.underlying131 Tryz.underlying114 rfl rfl (H.cell (u := (Sl a4 s2.1 c5)) (o' := Dv) 1 0 rfl rfl rfl) rfl) hn0 (H.sel' [0, 1] rfl rfl : Hp S0 σ0 _ ([_] ++ _))) wn ?_
       rintro _ σ29 ⟨_, ⟨rfl, rfl, hn28⟩, H, -⟩
       replace H : Hp _ _ _ [_, _] := H
       have hsl : (Sl a4 s2.1 c5) = (Sl a4 r25 c5) := sl_len hn28.symm
       try rw [hsl]
       try rw [hsl] at H
       clear hsl
       refine w_end (q_then (rg (sm (I o17) rfl (sa (I o17) rfl (w_end (q_blk (q_then ?_)))))))
       obtain rfl := sj h
       exact ⟨_, rfl, _, σ29, a4, c5, fr_join ⟨rfl, rfl, rfl, rfl, trivial⟩, rfl, H.sel' [1, 0] rfl rfl⟩
 ·clear hj
  have h := h'
  clear h' H
  rintro e a w ⟨rfl, ρ, σ30, a31, c32, rfl, rfl, H⟩
  refine q_then (c_seq (rg (sm (I o1.2) rfl (sm (I Eb) rfl (st (v := (B (decide (Eb < o1.2)))) (rv_gtr (a := o1.2) (b := Eb) rfl rfl) (sa (B (decide (Eb < o1.2))) rfl (w_end (q_then (c_ret ?_)))))))))
  obtain rfl := sj h
  exact fin_ret (v := (B (decide (Eb < o1.2)))) (results_ok Tryz.results152 (res_tmp (v := (B (decide (Eb < o1.2)))) rfl res_nil) rfl) ⟨a31, c32, rfl, rfl⟩ (H.sel' [0, 1] rfl rfl)

theorem c_impl_hitHeap_Pop {Ai : List (Int × Int)} {Dr : Option Addr} {Ds : Nat} {Dt Du Dv : Nat} {Dw Dx : List Value} {r : ((Int) × (Int)) × (List (Int × Int))} (h : M.impl_hitHeap_Pop Ai = some r) :
    Cal2 Tryz.prog 199 [(pt Du Dv)] [Ch.bx Dt Du Dv [(Sl Dr Ai Ds)] Dw Dx, Ch.own 0 0 (Sl Dr Ai Ds) Ai] (fun n0 v L => ∃ (az1 : Option Addr), ∃ (cz2 : Nat), v = (.iface 44 (.agg #[(I r.1.1), (I r.1.2)])) ∧ L = [Ch.bx Dt Du Dv [(Sl az1 r.2 cz2)] Dw Dx, Ch.own 0 0 (Sl az1 r.2 cz2) r.2]) := by
 refine cal2 (n := 25) Tryz.func199 rfl rfl rfl rfl ?_
 intro S0 σ0 n0 hn0 H
 unfold M.impl_hitHeap_Pop at h
 refine c_seq (rg (sa (.nilIface) rfl (w_end (q_then (c_seq (rg (sm (pt Du Dv) rfl (st (v := (pt Du Dv)) (rv_nilCheck rfl) ?_))))))))
 have hc1 := H.cell (u := (Sl Dr Ai Ds)) (o' := Dv) 0 0 rfl rfl rfl
 refine st (v := (Sl Dr Ai Ds)) (rv_load1 Tryz.underlying114 rfl rfl hc1) (st (v := (I (Ai.length : Int))) (rv_len Tryz.underlying114 rfl) (st (v := (I (w64 ((Ai.length : Int) - 1)))) (rv_sub (a := (Ai.length : Int)) (b := 1) rfl rfl) (sa (I (w64 ((Ai.length : Int) - 1))) rfl (w_end (q_then (c_seq (rg (sm (pt Du Dv) rfl (st (v := (pt Du Dv)) (rv_nilCheck rfl) ?_)))))))))
 have hc2 := H.cell (u := (Sl Dr Ai Ds)) (o' := Dv) 0 0 rfl rfl rfl
 refine st (v := (Sl Dr Ai Ds)) (rv_load1 Tryz.underlying114 rfl rfl hc2) (sm (I (w64 ((Ai.length : Int) - 1))) rfl ?_)
 revert h; refine br fun x3 hx4 h => ?_
 obtain ⟨b6, o7, hi5, -⟩ := (H.own 1 rfl).ix hx4
 refine st (v := (pt b6 o7)) (rv_ix Tryz.underlying114 ti44 rfl rfl hi5) ?_
 obtain ⟨_, ⟨_, _, rfl, rfl, rfl⟩, hl8, hc9⟩ := ((H.own 1 rfl).at hx4 hi5).cells
 refine st (v := (.agg #[(I x3.1), (I x3.2)])) (rv_load Tryz.underlying44 rfl ti44 rfl hl8 hc9) (st_ex (ex_alloc (cs := [(I 0), (I 0)]) H hn0 ti44 rfl) wn ?_)
 rintro _ σ11 ⟨b10, rfl, H, -⟩
 refine st_exS (ex_store_box (k := 0) (cs := [(I 0), (I 0)]) (vs := [(I x3.1), (I x3.2)]) (cs' := [(I x3.1), (I x3.2)]) H (i := 0) rfl ti44 rfl rfl rfl rfl rfl (Nat.le_of_ble_eq_true rfl) (by simp [plain]) rfl) wn ?_
 rintro σ12 ⟨H, -⟩
 refine w_end (q_then (c_seq (rg (sm (pt Du Dv) rfl (sm (pt Du Dv) rfl (st (v := (pt Du Dv)) (rv_nilCheck rfl) ?_))))))
 have hc13 := H.cell (u := (Sl Dr Ai Ds)) (o' := Dv) 1 0 rfl rfl rfl
 refine st (v := (Sl Dr Ai Ds)) (rv_load1 Tryz.underlying114 rfl rfl hc13) (sm (I (w64 ((Ai.length : Int) - 1))) rfl ?_)
 revert h; refine br fun xs14 hx15 h => ?_
 obtain ⟨a16, c17, hs18, -⟩ := (H.own 2 rfl).slice hx15
 refine st (v := (Sl a16 xs14 c17)) (rv_slice_h Tryz.underlying114 ti44 hs18 rfl rfl) (st (v := (pt Du Dv)) (rv_nilCheck rfl) ?_)
 have hv20 := (H.own 2 rfl).view hx15 hs18
 replace H := (H.front (i := 2) rfl).turn (d := Ch.own 0 0 (Sl a16 xs14 c17) xs14) (fun _ => hv20.1) hv20.2; clear hv20
 refine st_exS (ex_store_box (k := 0) (cs := [(Sl Dr Ai Ds)]) (vs := [(Sl a16 xs14 c17)]) (cs' := [(Sl a16 xs14 c17)]) H (i := 2) rfl ti114 rfl rfl rfl rfl rfl (Nat.le_of_ble_eq_true rfl) (by simp [plain]) rfl) wn ?_
 rintro σ21 ⟨H, -⟩
 refine w_end (q_then (c_seq (rg ?_)))
 have hc22 := H.cells 2 rfl
 refine st (v := (.agg #[(I x3.1), (I x3.2)])) (rv_load (cs := [(I x3.1), (I x3.2)]) Tryz.underlying44 rfl ti44 rfl rfl hc22) (st (v := (.iface 44 (.agg #[(I x3.1), (I x3.2)]))) (rv_makeInterface Tryz.underlying44 rfl rfl) (sa (.iface 44 (.agg #[(I x3.1), (I x3.2)])) rfl (w_end (q_then (c_ret ?_)))))
 obtain rfl := sj h
 exact fin_ret (v := (.iface 44 (.agg #[(I x3.1), (I x3.2)]))) (results_ok Tryz.results199 (res_tmp (v := (.iface 44 (.agg #[(I x3.1), (I x3.2)]))) rfl res_nil) rfl) ⟨a16, c17, rfl, rfl⟩ (H.sel' [0, 1] rfl rfl)

theorem c_container_heap_Pop__impl_hitHeap {Ai : List (Int × Int)} {Dr : Option Addr} {Ds : Nat} {Dt Du Dv : Nat} {Dw Dx : List Value} {r : ((Int) × (Int)) × (List (Int × Int))} (h : M.container_heap_Pop__impl_hitHeap Ai = some r) :
    Cal2 Tryz.prog 139 [(.iface 131 (pt Du Dv))] [Ch.bx Dt Du Dv [(Sl Dr Ai Ds)] Dw Dx, Ch.own 0 0 (Sl Dr Ai Ds) Ai] (fun n0 v L => ∃ (az1 : Option Addr), ∃ (cz2 : Nat), v = (.iface 44 (.agg #[(I r.1.1), (I r.1.2)])) ∧ L = [Ch.bx Dt Du Dv [(Sl az1 r.2 cz2)] Dw Dx, Ch.own 0 0 (Sl az1 r.2 cz2) r.2]) := by
 refine cal2 (n := 15) Tryz.func139 rfl rfl rfl rfl ?_
 intro S0 σ0 n0 hn0 H
 unfold M.container_heap_Pop__impl_hitHeap at h
 refine c_seq (rg (sa (.nilIface) rfl (w_end (q_then (c_seq (rg (sm (.iface 131 (pt Du Dv)) rfl ?_)))))))
 revert h; refine br fun r1 hx2 h => ?_
 have hc3 := c_impl_hitHeap_Len (Dr := Dr) (Ds := Ds) hx2
 have hle := Nat.le_trans hn0 H.size
 refine st_call (cx_lend (Loan.lend Loan.nil) hc3 (ent_iv hc3.fn (by kernel_rfl) Tryz.underlying131 Tryz.underlying114 rfl rfl (H.cell (u := (Sl Dr Ai Ds)) (o' := Dv) 0 0 rfl rfl rfl) rfl) (show Hp S0 σ0 _ ([Ch.own 0 0 (Sl Dr Ai Ds) Ai] ++ ([] ++ [Ch.bx Dt Du Dv [(Sl Dr Ai Ds)] Dw Dx])) from (H.sel' [1, 0] rfl rfl)) (by rintro _ _ _ ⟨rfl, rfl⟩; exact trivial)) wn ?_
 rintro _ σ4 ⟨_, ⟨rfl, rfl⟩, H, -, -⟩
 replace H : Hp _ _ _ [_, _] := H
 clear hle
 replace H : Hp _ _ _ [_, _] := H
 refine st (v := (I (w64 (r1 - 1)))) (rv_sub (a := r1) (b := 1) rfl rfl) (sa (I (w64 (r1 - 1))) rfl (w_end (q_then (c_seq (rg (sm (.iface 131 (pt Du Dv)) rfl (sm (I (w64 (r1 - 1))) rfl ?_)))))))
 revert h; refine br fun r5 hx6 h => ?_
 have hc7 := c_impl_hitHeap_Swap (Dr := Dr) (Ds := Ds) hx6
 refine st_call (cx_call hc7 (ent_iv hc7.fn (by kernel_rfl) Tryz.underlying131 Tryz.underlying114 rfl rfl (H.cell (u := (Sl Dr Ai Ds)) (o' := Dv) 1 0 rfl rfl rfl) rfl) hn0 (H.sel' [0, 1] rfl rfl : Hp S0 σ0 _ ([_] ++ _))) wn ?_
 rintro _ σ9 ⟨_, ⟨rfl, rfl, hn8⟩, H, -⟩
 replace H : Hp _ _ _ [_, _] := H
 have hsl : (Sl Dr Ai Ds) = (Sl Dr r5 Ds) := sl_len hn8.symm
 try rw [hsl]
 try rw [hsl] at H
 clear hsl
 refine w_end (q_then (c_seq (rg (sm (.iface 131 (pt Du Dv)) rfl (sm (I (w64 (r1 - 1))) rfl ?_)))))
 revert h; refine br fun r10 hx11 h => ?_
 have hc12 := c_container_heap_down__impl_hitHeap (Dt := Dt) (Du := Du) (Dv := Dv) (Dw := Dw) (Dx := Dx) (Dr := Dr) (Ds := Ds) hx11
 refine st_call (cx_call hc12 (ent_f hc12.fn rfl) hn0 (H.sel' [1, 0] rfl rfl : Hp S0 σ0 _ ([_, _] ++ _))) wn ?_
 rintro _ σ15 ⟨_, ⟨a13, c14, rfl, rfl⟩, H, -⟩
 replace H : Hp _ _ _ [_, _] := H
 refine w_end (q_then (c_seq (rg (sm (.iface 131 (pt Du Dv)) rfl ?_))))
 revert h; refine br fun r16 hx17 h => ?_
 have hc18 := c_impl_hitHeap_Pop (Dt := Dt) (Du := Du) (Dv := Dv) (Dw := Dw) (Dx := Dx) (Dr := a13) (Ds := c14) hx17
 refine st_call (cx_call hc18 (ent_ip hc18.fn (by kernel_rfl) Tryz.underlying131 rfl rfl) hn0 (H.sel' [0, 1] rfl rfl : Hp S0 σ0 _ ([_, _] ++ _))) wn ?_
 rintro _ σ21 ⟨_, ⟨a19, c20, rfl, rfl⟩, H, -⟩
 replace H : Hp _ _ _ [_, _] := H
 refine sa (.iface 44 (.agg #[(I r16.1.1), (I r16.1.2)])) rfl (w_end (q_then (c_ret ?_)))
 obtain rfl := sj h
 exact fin_ret (v := (.iface 44 (.agg #[(I r16.1.1), (I r16.1.2)]))) (results_ok Tryz.results139 (res_tmp (v := (.iface 44 (.agg #[(I r16.1.1), (I r16.1.2)]))) rfl res_nil) rfl) ⟨a19, c20, rfl, rfl⟩ (H.sel' [0, 1] rfl rfl)

end Go.Vs
