/- The functions compute what their models say. -/
import Derived.Test.YtfcemgcmpcmgcaaKStoreAtLogC5
set_option linter.unusedVariables false
set_option linter.unusedSimpArgs false
set_option maxRecDepth 20000
namespace Go.Vs
open Go Go.Proofs
attribute [local irreducible] Code.wp Code.wpIn wpList wpListIn wpQuiet Calls CallsIn

theorem c_spec_DrawChangedKeys {Do : List UInt8} {Dq : Option Addr} {Dr : Nat} {r : ((List (Int × (Int × (List Int) × Int))) × (List Int)) × Int × Int} (h : M.spec_DrawChangedKeys Do = some r) :
    Cal2 Try.prog 35 [(Sl Dq Do Dr)] [Ch.ro 0 (Sl Dq Do Dr) Do] (fun n0 v L => ∃ (az1 : Option Addr), ∃ (cz2 : Nat), ∃ (az3 : Option Addr), ∃ (cz4 : Nat), v = (.tuple #[(.agg #[(Sl az1 r.1.1 cz2), (Sl az3 r.1.2 cz4)]), (I r.2.1), (I r.2.2)]) ∧ L = [Ch.ro n0 (Sl az1 r.1.1 cz2) r.1.1, Ch.ro n0 (Sl az3 r.1.2 cz4) r.1.2]) := by
 refine cal2 (n := 20) Try.func35 rfl rfl rfl rfl ?_
 intro S0 σ0 n0 hn0 H
 unfold M.spec_DrawChangedKeys at h
 refine c_seq (rg (st_ex (ex_alloc (cs := [(.slice none 0 0), (.slice none 0 0)]) H hn0 ti26 rfl) wn ?_))
 rintro _ σ2 ⟨b1, rfl, H, -⟩
 refine sa (I 0) rfl (sa (I 0) rfl (w_end (q_then (c_seq (rg (sm (Sl Dq Do Dr) rfl ?_))))))
 revert h; refine br fun r3 hx4 h => ?_
 have hc5 := c_spec_newReader (Dq := Dq) (Dr := Dr) hx4
 refine st_call (cx_call hc5 (ent_f hc5.fn rfl) hn0 (H.sel' [1, 0, 1] rfl rfl : Hp S0 σ0 _ ([_] ++ _))) wn ?_
 rintro _ σ9 ⟨_, ⟨b6, a7, c8, rfl, rfl⟩, H, -⟩
 replace H : Hp _ _ _ [_, _, _, _] := H
 refine sa (pt b6 0) rfl (w_end (q_then (c_seq (rg (sm (pt b6 0) rfl ?_)))))
 revert h; refine br fun r10 hx11 h => ?_
 have hc12 := c_spec_anyHistory (Dc := n0) (Dd := b6) (De := 0) (Dg := []) (Dh := []) (Da := a7) (Db := c8) hx11
 refine st_call (cx_call hc12 (ent_f hc12.fn rfl) hn0 (H.sel' [0, 1, 1, 2, 3] rfl rfl : Hp S0 σ0 _ ([_, _] ++ _))) wn ?_
 rintro _ σ19 ⟨_, ⟨a13, c14, a15, c16, a17, c18, rfl, rfl⟩, H, -⟩
 replace H : Hp _ _ _ [_, _, _, _, _, _, _] := H
 refine st_ex (ex_alloc (cs := [(.slice none 0 0), (.slice none 0 0)]) H hn0 ti26 rfl) wn ?_
 rintro _ σ21 ⟨b20, rfl, H, -⟩
 replace H : Hp S0 σ0 σ21 [Ch.bx n0 b20 0 [(.slice none 0 0), (.slice none 0 0)] [] [], Ch.own n0 n0 (Sl a13 r10.1.1 c14) r10.1.1, Ch.own n0 n0 (Sl a15 r10.1.2 c16) r10.1.2, Ch.bx n0 b6 0 [(Sl a17 r10.2.1 c18), (I r10.2.2)] [] [], Ch.ro 0 (Sl a17 r10.2.1 c18) r10.2.1, Ch.bx n0 b1 0 [(.slice none 0 0), (.slice none 0 0)] [] []] := H.sel' [0, 1, 2, 3, 4, 6] rfl rfl
 refine st_exS (ex_store_box (k := 0) (cs := [(.slice none 0 0), (.slice none 0 0)]) (vs := [(Sl a13 r10.1.1 c14), (Sl a15 r10.1.2 c16)]) (cs' := [(Sl a13 r10.1.1 c14), (Sl a15 r10.1.2 c16)]) H (i := 0) rfl ti26 rfl rfl rfl rfl rfl (Nat.le_of_ble_eq_true rfl) (by simp [plain]) rfl) wn ?_
 rintro σ22 ⟨H, -⟩
 refine w_end (q_then (c_seq (rg (sm (pt b6 0) rfl ?_))))
 have hc23 := H.cells 0 rfl
 refine st (v := (.agg #[(Sl a13 r10.1.1 c14), (Sl a15 r10.1.2 c16)])) (rv_load (cs := [(Sl a13 r10.1.1 c14), (Sl a15 r10.1.2 c16)]) Try.underlying26 rfl ti26 rfl rfl hc23) ?_
 obtain ⟨σ24, hw25, H, -⟩ := H.pub 1 rfl (Nat.le_refl _)
 rw [← hw25]; clear hw25
 obtain ⟨σ26, hw27, H, -⟩ := H.pub 2 rfl (Nat.le_refl _)
 rw [← hw27]; clear hw27
 replace H := H.roLow 1 0 rfl (Nat.zero_le _)
 replace H := H.roLow 1 0 rfl (Nat.zero_le _)
 revert h; refine br fun r28 hx29 h => ?_
 have hc30 := c_spec_historyTime (Dc := n0) (Dd := b6) (De := 0) (Dg := []) (Dh := []) (Da := a17) (Db := c18) (Dt := a13) (Du := c14) (Dv := a15) (Dw := c16) hx29
 refine st_call (cx_call hc30 (ent_f hc30.fn rfl) hn0 (H.sel' [5, 6, 1, 0, 0, 1, 2, 3, 4, 6, 7] rfl rfl : Hp S0 σ0 _ ([_, _, _, _] ++ _))) wn ?_
 rintro _ σ33 ⟨_, ⟨a31, c32, rfl, rfl⟩, H, -⟩
 replace H : Hp _ _ _ [_, _, _, _, _, _, _, _, _] := H
 replace H : Hp S0 σ0 σ33 [Ch.bx n0 b6 0 [(Sl a31 r28.2.1 c32), (I r28.2.2)] [] [], Ch.ro 0 (Sl a31 r28.2.1 c32) r28.2.1, Ch.ro n0 (Sl a15 r10.1.2 c16) r10.1.2, Ch.ro n0 (Sl a13 r10.1.1 c14) r10.1.1, Ch.bx n0 b20 0 [(Sl a13 r10.1.1 c14), (Sl a15 r10.1.2 c16)] [] [], Ch.bx n0 b1 0 [(.slice none 0 0), (.slice none 0 0)] [] []] := H.sel' [0, 1, 4, 5, 6, 8] rfl rfl
 refine sa (I r28.1) rfl (w_end (q_then (c_seq ?_)))
 have hc34 := H.cells 4 rfl
 have hc35 := H.cells 4 rfl
 replace H := H.roLow 3 0 rfl (Nat.zero_le _)
 replace H := H.roLow 3 0 rfl (Nat.zero_le _)
 revert h; refine br fun r36 hx37 h => ?_
 have hc38 := c_spec_historyTime (Dc := n0) (Dd := b6) (De := 0) (Dg := []) (Dh := []) (Da := a31) (Db := c32) (Dt := a13) (Du := c14) (Dv := a15) (Dw := c16) hx37
 have Hs := H
 refine rg2 (σ := σ33) (Nm := (Option Addr) × (Nat)) 6 [4, 5] [[false, false], [true, false], [true, true]] [[(0, 0), (1, 1)], [(0, 0), (1, 1), (2, 2)], [(0, 0)], [(0, 0)], [(0, 1)], [(1, 2)]] 2 [fun ((a39, c40) : (Option Addr) × (Nat)) => fun σm => Hp S0 σ0 σm [Ch.ro 0 (Sl a15 r10.1.2 c16) r10.1.2, Ch.ro 0 (Sl a13 r10.1.1 c14) r10.1.1, Ch.bx n0 b6 0 [(Sl a31 r28.2.1 c32), (I r28.2.2)] [] [], Ch.ro 0 (Sl a31 r28.2.1 c32) r28.2.1, Ch.ro n0 (Sl a15 r10.1.2 c16) r10.1.2, Ch.ro n0 (Sl a13 r10.1.1 c14) r10.1.1, Ch.bx n0 b20 0 [(Sl a13 r10.1.1 c14), (Sl a15 r10.1.2 c16)] [] [], Ch.bx n0 b1 0 [(.slice none 0 0), (.slice none 0 0)] [] []] ∧ Md (cov []) σ33 σm, fun ((a39, c40) : (Option Addr) × (Nat)) => fun σm => Hp S0 σ0 σm [Ch.bx n0 b6 0 [(Sl a39 r36.2.1 c40), (I r36.2.2)] [] [], Ch.ro 0 (Sl a39 r36.2.1 c40) r36.2.1, Ch.ro 0 (Sl a15 r10.1.2 c16) r10.1.2, Ch.ro 0 (Sl a13 r10.1.1 c14) r10.1.1, Ch.ro 0 (Sl a31 r28.2.1 c32) r28.2.1, Ch.ro n0 (Sl a15 r10.1.2 c16) r10.1.2, Ch.ro n0 (Sl a13 r10.1.1 c14) r10.1.1, Ch.bx n0 b20 0 [(Sl a13 r10.1.1 c14), (Sl a15 r10.1.2 c16)] [] [], Ch.bx n0 b1 0 [(.slice none 0 0), (.slice none 0 0)] [] []] ∧ Md (fun i => (cov []) i ∨ (cov [Ch.bx n0 b6 0 [(Sl a31 r28.2.1 c32), (I r28.2.2)] [] [], Ch.ro 0 (Sl a31 r28.2.1 c32) r28.2.1, Ch.ro 0 (Sl a13 r10.1.1 c14) r10.1.1, Ch.ro 0 (Sl a15 r10.1.2 c16) r10.1.2]) i) σ33 σm, fun ((a39, c40) : (Option Addr) × (Nat)) => fun σm => Hp S0 σ0 σm [Ch.bx n0 b1 0 [(Sl a13 r10.1.1 c14), (Sl a15 r10.1.2 c16)] [] [], Ch.bx n0 b6 0 [(Sl a39 r36.2.1 c40), (I r36.2.2)] [] [], Ch.ro 0 (Sl a39 r36.2.1 c40) r36.2.1, Ch.ro 0 (Sl a15 r10.1.2 c16) r10.1.2, Ch.ro 0 (Sl a13 r10.1.1 c14) r10.1.1, Ch.ro 0 (Sl a31 r28.2.1 c32) r28.2.1, Ch.ro n0 (Sl a15 r10.1.2 c16) r10.1.2, Ch.ro n0 (Sl a13 r10.1.1 c14) r10.1.1, Ch.bx n0 b20 0 [(Sl a13 r10.1.1 c14), (Sl a15 r10.1.2 c16)] [] []] ∧ Md (fun i => (fun i => (cov []) i ∨ (cov [Ch.bx n0 b6 0 [(Sl a31 r28.2.1 c32), (I r28.2.2)] [] [], Ch.ro 0 (Sl a31 r28.2.1 c32) r28.2.1, Ch.ro 0 (Sl a13 r10.1.1 c14) r10.1.1, Ch.ro 0 (Sl a15 r10.1.2 c16) r10.1.2]) i) i ∨ (fun i => i = b1) i) σ33 σm] [fun ((a39, c40) : (Option Addr) × (Nat)) => (.agg #[(Sl a13 r10.1.1 c14), (Sl a15 r10.1.2 c16)]), fun ((a39, c40) : (Option Addr) × (Nat)) => (I r28.1), fun ((a39, c40) : (Option Addr) × (Nat)) => (pt b6 0), fun ((a39, c40) : (Option Addr) × (Nat)) => (.agg #[(Sl a13 r10.1.1 c14), (Sl a15 r10.1.2 c16)]), fun ((a39, c40) : (Option Addr) × (Nat)) => (I r36.1), fun ((a39, c40) : (Option Addr) × (Nat)) => undef] (none, 0) (by kernel_rfl) (by kernel_rfl) ?_ ?_ ?_
 ·intro σm m0
  exact ⟨H.grow (m0.mono fun _ h => h.elim), m0⟩
 ·refine all_cons (by
    refine ⟨?_, ?_⟩
    ·rintro ⟨a39, c40⟩ ρ σm hJ hoff hdep
     have e6 := look_off (N := 20) (hoff 6 rfl) rfl
     obtain ⟨H, m⟩ := id hJ
     have hc34 := H.cells 6 rfl
     exact dp_v (v := (.agg #[(Sl a13 r10.1.1 c14), (Sl a15 r10.1.2 c16)])) wn (rv_load (cs := [(Sl a13 r10.1.1 c14), (Sl a15 r10.1.2 c16)]) Try.underlying26 rfl ti26 e6 rfl hc34) rfl hJ
    refine ⟨?_, ?_⟩
    ·rintro ⟨a39, c40⟩ ρ σm hJ hoff hdep
     have e6 := look_off (N := 20) (hoff 6 rfl) rfl
     obtain ⟨H, m⟩ := id hJ
     have hc34 := H.cells 7 rfl
     exact dp_v (v := (.agg #[(Sl a13 r10.1.1 c14), (Sl a15 r10.1.2 c16)])) wn (rv_load (cs := [(Sl a13 r10.1.1 c14), (Sl a15 r10.1.2 c16)]) Try.underlying26 rfl ti26 e6 rfl hc34) rfl hJ
    trivial) ?_
  refine ac rfl (by
    intro k; rintro ⟨a39, c40⟩ ρ σm hJ hoff hdep
    have e7 := look_off (N := 20) (hoff 7 rfl) rfl
    exact dp_v (v := (I r28.1)) wn (rv_move e7) rfl hJ) ?_
  refine ac rfl (by
    intro k; rintro ⟨a39, c40⟩ ρ σm hJ hoff hdep
    have e5 := look_off (N := 20) (hoff 5 rfl) rfl
    exact dp_v (v := (pt b6 0)) wn (rv_move e5) rfl hJ) ?_
  refine all_cons (by
    refine ⟨?_, ?_⟩
    ·rintro ⟨a39, c40⟩ ρ σm hJ hoff hdep
     have e6 := look_off (N := 20) (hoff 6 rfl) rfl
     obtain ⟨H, m⟩ := id hJ
     have hc35 := H.cells 6 rfl
     exact dp_v (v := (.agg #[(Sl a13 r10.1.1 c14), (Sl a15 r10.1.2 c16)])) wn (rv_load (cs := [(Sl a13 r10.1.1 c14), (Sl a15 r10.1.2 c16)]) Try.underlying26 rfl ti26 e6 rfl hc35) rfl hJ
    trivial) ?_
  refine all_cons (by
    refine ⟨?_, ?_⟩
    ·rintro ⟨a39, c40⟩ ρ σm hJ hoff hdep
     have e17 : look 20 ρ 17 = (pt b6 0) := hdep 2 rfl rfl 17 rfl
     have e18 : look 20 ρ 18 = (.agg #[(Sl a13 r10.1.1 c14), (Sl a15 r10.1.2 c16)]) := hdep 3 rfl rfl 18 rfl
     obtain ⟨H, m⟩ := id hJ
     refine dp_cx wn (cx_call hc38 (ent_f hc38.fn (by show [look 20 ρ 17, look 20 ρ 18] = _; rw [e17, e18])) hn0 (H.sel' [2, 3, 1, 0, 0, 1, 3, 4, 5, 6, 7] rfl rfl : Hp S0 σ0 _ ([_, _, _, _] ++ _))) ?_
     rintro _ σq ⟨_, ⟨a39x, c40x, rfl, rfl⟩, H2, m2⟩
     exact ⟨_, (a39x, c40x), rfl, rfl, ⟨H2.sel' [0, 1, 2, 3, 4, 5, 6, 7, 8] rfl rfl, m.comp m2⟩, stab [0, 1, 2, 3] (by kernel_rfl) ⟨rfl, rfl, rfl, rfl, trivial⟩⟩
    trivial) ?_
  refine all_cons (by
    refine ⟨?_, ?_⟩
    ·rintro ⟨a39, c40⟩ ρ σm hJ hoff hdep
     have e2 := look_off (N := 20) (hoff 2 rfl) rfl
     have e15 := hdep 0 rfl rfl 15 rfl
     obtain ⟨H, m⟩ := id hJ
     refine dp_exS wn rfl (ex_store_box (k := 0) (cs := [(.slice none 0 0), (.slice none 0 0)]) (vs := [(Sl a13 r10.1.1 c14), (Sl a15 r10.1.2 c16)]) (cs' := [(Sl a13 r10.1.1 c14), (Sl a15 r10.1.2 c16)]) H (i := 8) rfl ti26 e2 rfl e15 rfl rfl (Nat.le_of_ble_eq_true rfl) (by simp [plain]) rfl) ?_
     rintro σq ⟨H2, m2⟩
     exact ⟨_, (a39, c40), rfl, ⟨H2.sel' [0, 1, 2, 3, 4, 5, 6, 7, 8] rfl rfl, m.comp m2⟩, stab [0, 1, 2, 3, 4] (by kernel_rfl) ⟨rfl, rfl, rfl, rfl, rfl, trivial⟩⟩
    trivial) ?_
  exact all_nil
 ·rintro ⟨a39, c40⟩ ρ σ41 hJ hoff hrel
  have e2 := look_off (N := 20) (hoff 2 rfl) rfl
  have e16 := hrel 1 rfl 16 rfl
  have e19 := hrel 4 rfl 19 rfl
  obtain ⟨H, -⟩ := (show Hp S0 σ0 σ41 [Ch.bx n0 b1 0 [(Sl a13 r10.1.1 c14), (Sl a15 r10.1.2 c16)] [] [], Ch.bx n0 b6 0 [(Sl a39 r36.2.1 c40), (I r36.2.2)] [] [], Ch.ro 0 (Sl a39 r36.2.1 c40) r36.2.1, Ch.ro 0 (Sl a15 r10.1.2 c16) r10.1.2, Ch.ro 0 (Sl a13 r10.1.1 c14) r10.1.1, Ch.ro 0 (Sl a31 r28.2.1 c32) r28.2.1, Ch.ro n0 (Sl a15 r10.1.2 c16) r10.1.2, Ch.ro n0 (Sl a13 r10.1.1 c14) r10.1.1, Ch.bx n0 b20 0 [(Sl a13 r10.1.1 c14), (Sl a15 r10.1.2 c16)] [] []] ∧ Md (fun i => (fun i => (cov []) i ∨ (cov [Ch.bx n0 b6 0 [(Sl a31 r28.2.1 c32), (I r28.2.2)] [] [], Ch.ro 0 (Sl a31 r28.2.1 c32) r28.2.1, Ch.ro 0 (Sl a13 r10.1.1 c14) r10.1.1, Ch.ro 0 (Sl a15 r10.1.2 c16) r10.1.2]) i) i ∨ (fun i => i = b1) i) σ33 σ41 from hJ)
  clear hJ Hs
  rw [fr_lookL (L := [(2, (pt b1 0)), (16, (I r28.1)), (19, (I r36.1))]) ⟨e2, e16, e19, trivial⟩]
  clear hoff hrel e2 e16 e19
  refine sa (I r28.1) rfl (sa (I r36.1) rfl (w_end (q_then (c_ret ?_))))
  obtain rfl := sj h
  exact fin_ret (v := (.tuple #[(.agg #[(Sl a13 r10.1.1 c14), (Sl a15 r10.1.2 c16)]), (I r28.1), (I r36.1)])) (results_ok Try.results35 (res_cell rfl (run_cellRes (cs := [(Sl a13 r10.1.1 c14), (Sl a15 r10.1.2 c16)]) Try.underlying26 rfl ti26 rfl (H.cells 0 rfl)) (res_tmp (v := (I r28.1)) rfl (res_tmp (v := (I r36.1)) rfl res_nil))) rfl) ⟨a13, c14, a15, c16, rfl, rfl⟩ (H.sel' [7, 6] rfl rfl)

theorem c_slices_Equal_int_int {Dx : List Int} {Dy : List Int} {Dz : Option Addr} {Ea : Nat} {Eb : Option Addr} {Ec : Nat} {r : Bool} (h : M.slices_Equal_int_int Dx Dy = some r) :
    Cal2 Try.prog 112 [(Sl Dz Dx Ea), (Sl Eb Dy Ec)] [Ch.ro 0 (Sl Dz Dx Ea) Dx, Ch.ro 0 (Sl Eb Dy Ec) Dy] (fun n0 v L => v = (B r) ∧ L = []) := by
 refine cal2 (n := 26) Try.func112 rfl rfl rfl rfl ?_
 intro S0 σ0 n0 hn0 H
 unfold M.slices_Equal_int_int at h
 refine c_seq (rg (sa (B false) rfl (w_end (q_then (c_seq (c_seq (rg (sm (Sl Dz Dx Ea) rfl (st (v := (I (Dx.length : Int))) (rv_len Try.underlying24 rfl) (sm (Sl Eb Dy Ec) rfl (st (v := (I (Dy.length : Int))) (rv_len Try.underlying24 rfl) ?_)))))))))))
 refine st (v := (B ((Dx.length : Int) != (Dy.length : Int)))) (rv_neq (a := (Dx.length : Int)) (b := (Dy.length : Int)) rfl rfl) (w_end (q_then ?_))
 refine cd_cond ((Dx.length : Int) != (Dy.length : Int)) rfl (fun hb1 => ?_) (fun hb1 => ?_)
 ·replace h := bif_t hb1 h
  refine c_seq (rg (sa (B false) rfl (w_end (q_then (c_ret (q_then_r ?_))))))
  obtain rfl := sj h
  exact fin_ret (v := (B false)) (results_ok Try.results112 (res_tmp (v := (B false)) rfl res_nil) rfl) ⟨rfl, rfl⟩ (H.sel' [] rfl rfl)
 ·replace h := bif_f hb1 h
  refine c_skip (q_then (c_seq (c_seq (rg (sm (Sl Dz Dx Ea) rfl (st (v := (I (Dx.length : Int))) (rv_len Try.underlying24 rfl) (sm (I 0) rfl (w_end (q_then ?_)))))))))
  obtain ⟨o2, hj, h'⟩ := bind_some h
  clear h
  refine c_cut (fun e a w => (∃ t, o2 = (.inl t) ∧ e = .normal ∧ ∃ (ρ : Nat → Value) (σ : St), a = fr 26 (updL ρ []) ∧ w = σ.w ∧ Hp S0 σ0 σ []) ∨ (∃ t, o2 = (.inr t) ∧ e = .ret ∧ ∃ (ρ : Nat → Value) (σ : St), a = fr 26 (updL ρ [(4, (B t))]) ∧ w = σ.w ∧ Hp S0 σ0 σ [])) ?_ ?_
  ·clear h'
   rename _ = some o2 => h
   refine c_blk (wp_loopM _ h (fun s3 a w => ∃ (ρ : Nat → Value) (σ : St), a = fr 26 (updL ρ [(0, (Sl Dz Dx Ea)), (1, (Sl Eb Dy Ec)), (12, (I (Dx.length : Int))), (13, (I s3))]) ∧ w = σ.w ∧ Hp S0 σ0 σ [Ch.ro 0 (Sl Dz Dx Ea) Dx, Ch.ro 0 (Sl Eb Dy Ec) Dy]) ⟨_, σ0, fr_join ⟨rfl, rfl, rfl, rfl, trivial⟩, rfl, H.sel' [0, 1] rfl rfl⟩ ?_)
   clear h H
   rintro s3 a w o ⟨ρ, σ4, rfl, rfl, H⟩ h hres
   refine c_seq (rg (st (v := (B (decide (s3 < (Dx.length : Int))))) (rv_lss (a := s3) (b := (Dx.length : Int)) rfl rfl) (w_end (q_then (c_seq ?_)))))
   refine cd_cond (decide (s3 < (Dx.length : Int))) rfl (fun hb5 => ?_) (fun hb5 => ?_)
   ·replace h := bif_t hb5 h
    refine c_skip (q_then (c_seq (c_blk (c_seq (rg (sm (I s3) rfl (sa (I s3) rfl (w_end (q_then (c_seq ?_))))))))))
    refine rgP (σ := σ4) 8 (by kernel_rfl) (by kernel_rfl) (by kernel_rfl) ?_
    refine sq (v := (Sl Dz Dx Ea)) (rv_move rfl) (sq (v := (I s3)) (rv_move rfl) ?_)
    revert h; refine br fun x6 hx7 h => ?_
    obtain ⟨b9, o10, hi8, -⟩ := (H.ro 0 rfl).ix hx7
    refine sq (v := (pt b9 o10)) (rv_ix Try.underlying24 ti3 rfl rfl hi8) ?_
    have hc11 := ((H.ro 0 rfl).at hx7 hi8).int
    refine sq (v := (I x6)) (rv_load1 Try.underlying3 rfl rfl hc11) (sq (v := (Sl Eb Dy Ec)) (rv_move rfl) (sq (v := (I s3)) (rv_move rfl) ?_))
    revert h; refine br fun x12 hx13 h => ?_
    obtain ⟨b15, o16, hi14, -⟩ := (H.ro 1 rfl).ix hx13
    refine sq (v := (pt b15 o16)) (rv_ix Try.underlying24 ti3 rfl rfl hi14) ?_
    have hc17 := ((H.ro 1 rfl).at hx13 hi14).int
    refine sq (v := (I x12)) (rv_load1 Try.underlying3 rfl rfl hc17) (sq_end ?_)
    intro σ18 hm19
    replace H := H.grow (hm19.mono fun _ h => h); clear hm19
    refine st (v := (B (x6 != x12))) (rv_neq (a := x6) (b := x12) rfl rfl) (w_end (q_then ?_))
    refine cd_cond (x6 != x12) rfl (fun hb20 => ?_) (fun hb20 => ?_)
    ·replace h := bif_t hb20 h
     refine c_seq (rg (sa (B false) rfl (w_end (q_then (c_ret (q_blk_r (q_then_r (q_then_r (q_blk_r ?_)))))))))
     obtain rfl := sj h
     obtain rfl := hres _ rfl
     exact .inr (⟨_, rfl, rfl, _, σ18, fr_join ⟨rfl, trivial⟩, rfl, H.sel' [] rfl rfl⟩)
    ·replace h := bif_f hb20 h
     refine c_skip (q_blk (q_then (rg (st (v := (I (w64 (s3 + 1)))) (rv_add (a := s3) (b := 1) rfl rfl) (sm (I (w64 (s3 + 1))) rfl (w_end (q_then ?_)))))))
     obtain rfl := sj h
     exact ⟨_, rfl, _, σ18, fr_join ⟨rfl, rfl, rfl, rfl, trivial⟩, rfl, H.sel' [0, 1] rfl rfl⟩
   ·replace h := bif_f hb5 h
    refine c_exit (q_then_x (q_then_x (q_blk_hit ?_)))
    obtain rfl := sj h
    obtain rfl := hres _ rfl
    exact .inl ⟨_, rfl, rfl, _, σ4, fr_join trivial, rfl, H.sel' [] rfl rfl⟩
  ·clear hj
   have h := h'
   clear h' H
   rintro e a w (⟨t21, rfl, rfl, ρ, σ22, rfl, rfl, H⟩ | ⟨t23, rfl, rfl, ρ, σ24, rfl, rfl, H⟩)
   ·replace h := selim_l h
    refine q_then (c_seq (rg (sa (B true) rfl (w_end (q_then (c_ret ?_))))))
    obtain rfl := sj h
    exact fin_ret (v := (B true)) (results_ok Try.results112 (res_tmp (v := (B true)) rfl res_nil) rfl) ⟨rfl, rfl⟩ (H.sel' [] rfl rfl)
   ·replace h := selim_r h
    refine q_then_r ?_
    obtain rfl := sj h
    exact fin_ret (v := (B t23)) (results_ok Try.results112 (res_tmp (v := (B t23)) rfl res_nil) rfl) ⟨rfl, rfl⟩ (H.sel' [] rfl rfl)

theorem c_impl_equalItems {Cr : Int × (List Int) × Int} {Cs : Int × (List Int) × Int} {Ed : Option Addr} {Ee : Nat} {Ef : Option Addr} {Eg : Nat} {r : Bool} (h : M.impl_equalItems Cr Cs = some r) :
    Cal2 Try.prog 97 [(.agg #[(I Cr.1), (Sl Ed Cr.2.1 Ee), (I Cr.2.2)]), (.agg #[(I Cs.1), (Sl Ef Cs.2.1 Eg), (I Cs.2.2)])] [Ch.ro 0 (Sl Ed Cr.2.1 Ee) Cr.2.1, Ch.ro 0 (Sl Ef Cs.2.1 Eg) Cs.2.1] (fun n0 v L => v = (B r) ∧ L = []) := by
 refine cal2 (n := 24) Try.func97 rfl rfl rfl rfl ?_
 intro S0 σ0 n0 hn0 H
 unfold M.impl_equalItems at h
 refine c_seq (rg (st_ex (ex_box (cs := [(I Cr.1), (Sl Ed Cr.2.1 Ee), (I Cr.2.2)]) H hn0 rfl rfl) wn ?_))
 rintro _ σ2 ⟨b1, rfl, H, -⟩
 refine st_ex (ex_box (cs := [(I Cs.1), (Sl Ef Cs.2.1 Eg), (I Cs.2.2)]) H hn0 rfl rfl) wn ?_
 rintro _ σ4 ⟨b3, rfl, H, -⟩
 refine sa (B false) rfl (w_end (q_then (c_seq (rg (st (v := (pt b1 0)) (rv_fieldAddr (off := 0) (ft := 3) Try.underlying41 rfl ti3 rfl rfl) ?_)))))
 have hc5 := H.cell (u := (I Cr.1)) (o' := 0) 1 0 rfl rfl rfl
 refine st (v := (I Cr.1)) (rv_load1 Try.underlying3 rfl rfl hc5) (st (v := (pt b3 0)) (rv_fieldAddr (off := 0) (ft := 3) Try.underlying41 rfl ti3 rfl rfl) ?_)
 have hc6 := H.cell (u := (I Cs.1)) (o' := 0) 0 0 rfl rfl rfl
 refine st (v := (I Cs.1)) (rv_load1 Try.underlying3 rfl rfl hc6) (st (v := (B (Cr.1 == Cs.1))) (rv_eql (a := Cr.1) (b := Cs.1) rfl rfl) (sm (B (Cr.1 == Cs.1)) rfl ?_))
 rcases Bool.eq_false_or_eq_true (Cr.1 == Cs.1) with hb7 | hb7
 ·replace h := bif_t hb7 h
  refine st_g (v := (pt b1 2)) (congrArg some hb7) (rv_fieldAddr (off := 2) (ft := 3) Try.underlying41 rfl ti3 rfl rfl) ?_
  have hc8 := H.cell (u := (I Cr.2.2)) (o' := 2) 1 2 rfl rfl rfl
  refine st_g (v := (I Cr.2.2)) (congrArg some hb7) (rv_load1 Try.underlying3 rfl rfl hc8) (st_g (v := (pt b3 2)) (congrArg some hb7) (rv_fieldAddr (off := 2) (ft := 3) Try.underlying41 rfl ti3 rfl rfl) ?_)
  have hc9 := H.cell (u := (I Cs.2.2)) (o' := 2) 0 2 rfl rfl rfl
  refine st_g (v := (I Cs.2.2)) (congrArg some hb7) (rv_load1 Try.underlying3 rfl rfl hc9) (st_g (v := (B (Cr.2.2 == Cs.2.2))) (congrArg some hb7) (rv_eql (a := Cr.2.2) (b := Cs.2.2) rfl rfl) (st (v := (B (Cr.2.2 == Cs.2.2))) (rv_pick_t (congrArg B hb7) rfl) (sm (B (Cr.2.2 == Cs.2.2)) rfl ?_)))
  rcases Bool.eq_false_or_eq_true (Cr.2.2 == Cs.2.2) with hb10 | hb10
  ·replace h := bif_t hb10 h
   refine st_g (v := (pt b1 1)) (congrArg some hb10) (rv_fieldAddr (off := 1) (ft := 24) Try.underlying41 rfl ti24 rfl rfl) ?_
   have hc11 := H.cell (u := (Sl Ed Cr.2.1 Ee)) (o' := 1) 1 1 rfl rfl rfl
   refine st_g (v := (Sl Ed Cr.2.1 Ee)) (congrArg some hb10) (rv_load1 Try.underlying24 rfl rfl hc11) (st_g (v := (pt b3 1)) (congrArg some hb10) (rv_fieldAddr (off := 1) (ft := 24) Try.underlying41 rfl ti24 rfl rfl) ?_)
   have hc12 := H.cell (u := (Sl Ef Cs.2.1 Eg)) (o' := 1) 0 1 rfl rfl rfl
   refine st_g (v := (Sl Ef Cs.2.1 Eg)) (congrArg some hb10) (rv_load1 Try.underlying24 rfl rfl hc12) ?_
   revert h; refine br fun r13 hx14 h => ?_
   have hc15 := c_slices_Equal_int_int (Dz := Ed) (Ea := Ee) (Eb := Ef) (Ec := Eg) hx14
   refine st_call (cx_call hc15 (ent_f hc15.fn rfl) hn0 (H.sel' [2, 3, 0, 1, 2, 3] rfl rfl : Hp S0 σ0 _ ([_, _] ++ _))) (wanted_yes rfl (by exact (congrArg some hb10))) ?_
   rintro _ σ16 ⟨_, ⟨rfl, rfl⟩, H, -⟩
   replace H : Hp _ _ _ [_, _, _, _] := H
   refine st (v := (B r13)) (rv_pick_t (congrArg B hb10) rfl) (sa (B r13) rfl (w_end (q_then (c_ret ?_))))
   obtain rfl := sj h
   exact fin_ret (v := (B r13)) (results_ok Try.results97 (res_tmp (v := (B r13)) rfl res_nil) rfl) ⟨rfl, rfl⟩ (H.sel' [] rfl rfl)
  ·replace h := bif_f hb10 h
   refine st_skip (congrArg some hb10) (st_skip (congrArg some hb10) (st_skip (congrArg some hb10) (st_skip (congrArg some hb10) (st_skip (congrArg some hb10) (st (v := (B false)) (rv_pick_f (congrArg B hb10) rfl) (sa (B false) rfl (w_end (q_then (c_ret ?_)))))))))
   obtain rfl := sj h
   exact fin_ret (v := (B false)) (results_ok Try.results97 (res_tmp (v := (B false)) rfl res_nil) rfl) ⟨rfl, rfl⟩ (H.sel' [] rfl rfl)
 ·replace h := bif_f hb7 h
  refine st_skip (congrArg some hb7) (st_skip (congrArg some hb7) (st_skip (congrArg some hb7) (st_skip (congrArg some hb7) (st_skip (congrArg some hb7) (st (v := (B false)) (rv_pick_f (congrArg B hb7) rfl) (sm (B false) rfl (st_skip rfl (st_skip rfl (st_skip rfl (st_skip rfl (st_skip rfl ?_)))))))))))
  refine st (v := (B false)) (rv_pick_f rfl rfl) (sa (B false) rfl (w_end (q_then (c_ret ?_))))
  obtain rfl := sj h
  exact fin_ret (v := (B false)) (results_ok Try.results97 (res_tmp (v := (B false)) rfl res_nil) rfl) ⟨rfl, rfl⟩ (H.sel' [] rfl rfl)

theorem c_impl_appendChanged : ∀ (fuel : Nat) {Eh : List Int} {Ei : Vr (Int × (List Int) × Int)} {Ej : Vr (Int × (List Int) × Int)} {Ek : Option Addr} {El : Nat} {Em : Option Addr} {En : Option Addr} {r : (List Int)} (h : M.impl_appendChanged fuel Eh Ei Ej = some r),
    Cal2 Try.prog 66 [(Sl Ek Eh El), (.pointer Em), (.pointer En)] [Ch.own 0 0 (Sl Ek Eh El) Eh, Ch.pv 0 (.pointer Em) Ei, Ch.pv 0 (.pointer En) Ej] (fun n0 v L => ∃ (az1 : Option Addr), ∃ (cz2 : Nat), v = (Sl az1 r cz2) ∧ L = [Ch.own 0 n0 (Sl az1 r cz2) r]) := by
 intro fuel
 induction fuel with
 | zero => intro _ _ _ _ _ _ _ r h; cases h
 | succ fuel ih =>
 ·intro Eh Ei Ej Ek El Em En r h
  replace h : M.impl_appendChanged_F (M.impl_appendChanged fuel) Eh Ei Ej = some r := h
  refine cal2 (n := 79) Try.func66 rfl rfl rfl rfl ?_
  intro S0 σ0 n0 hn0 H
  unfold M.impl_appendChanged_F at h
  refine c_seq (rg (sa (.slice none 0 0) rfl (w_end (q_then (c_seq (c_seq (rg (sm (.pointer Em) rfl (sm (.pointer En) rfl (st (v := (B (peq Em En))) (rv_eqlV Try.underlying67 ti109 rfl (H.pv 1 rfl) (H.pv 2 rfl) rfl rfl) (w_end ?_)))))))))))
  refine q_then ?_
  refine cd_cond (peq Em En) rfl (fun hb1 => ?_) (fun hb1 => ?_)
  ·have hq := PV.same hb1 (H.pv 1 rfl) (H.pv 2 rfl)
   replace h := gboth_t hq h
   clear hq
   refine c_seq (rg (sm (Sl Ek Eh El) rfl (sa (Sl Ek Eh El) rfl (w_end (q_then (c_ret (q_then_r ?_)))))))
   replace H := H.ownSc 0 0 n0 rfl (Nat.le_refl _)
   obtain rfl := sj h
   exact fin_ret (v := (Sl Ek Eh El)) (results_ok Try.results66 (res_tmp (v := (Sl Ek Eh El)) rfl res_nil) rfl) ⟨Ek, El, rfl, rfl⟩ (H.sel' [0] rfl rfl)
  ·replace h := gboth_f (PV.other hb1 (H.pv 1 rfl) (H.pv 2 rfl)) h
   refine c_skip (q_then (c_seq (rg (sm (.pointer Em) rfl ?_))))
   revert h; refine br fun r2 hx3 h => ?_
   have hc4 := c_impl_version_node (Ag := Em) hx3
   refine st_call (cx_call hc4 (ent_f hc4.fn rfl) hn0 (H.sel' [1, 0, 1, 2] rfl rfl : Hp S0 σ0 _ ([_] ++ _))) wn ?_
   rintro _ σ8 ⟨_, ⟨a5, a6, a7, rfl, rfl⟩, H, -⟩
   replace H : Hp _ _ _ [_, _, _, _, _, _] := H
   refine sm (.pointer En) rfl ?_
   revert h; refine br fun r9 hx10 h => ?_
   have hc11 := c_impl_version_node (Ag := En) hx10
   refine st_call (cx_call hc11 (ent_f hc11.fn rfl) hn0 (H.sel' [5, 0, 1, 2, 3, 4, 5] rfl rfl : Hp S0 σ0 _ ([_] ++ _))) wn ?_
   rintro _ σ15 ⟨_, ⟨a12, a13, a14, rfl, rfl⟩, H, -⟩
   replace H : Hp _ _ _ [_, _, _, _, _, _, _, _, _] := H
   replace H : Hp S0 σ0 σ15 [Ch.pv 0 (.pointer a12) r9.1, Ch.pv 0 (.pointer a13) r9.2.1, Ch.pv 0 (.pointer a14) r9.2.2, Ch.pv 0 (.pointer a5) r2.1, Ch.pv 0 (.pointer a6) r2.2.1, Ch.pv 0 (.pointer a7) r2.2.2, Ch.own 0 0 (Sl Ek Eh El) Eh] := H.sel' [0, 1, 2, 3, 4, 5, 6] rfl rfl
   refine st_ex (ex_alloc (cs := [(.pointer none), (.pointer none), (.pointer none)]) H hn0 ti109 rfl) wn ?_
   rintro _ σ17 ⟨b16, rfl, H, -⟩
   refine st_ex (ex_alloc (cs := [(.pointer none), (.pointer none), (.pointer none)]) H hn0 ti109 rfl) wn ?_
   rintro _ σ19 ⟨b18, rfl, H, -⟩
   refine st_exS (ex_store_box (k := 0) (cs := [(.pointer none), (.pointer none), (.pointer none)]) (vs := [(.pointer a5), (.pointer a6), (.pointer a7)]) (cs' := [(.pointer a5), (.pointer a6), (.pointer a7)]) H (i := 1) rfl ti109 rfl rfl rfl rfl rfl (Nat.le_of_ble_eq_true rfl) (by simp [plain]) rfl) wn ?_
   rintro σ20 ⟨H, -⟩
   refine st_exS (ex_store_box (k := 0) (cs := [(.pointer none), (.pointer none), (.pointer none)]) (vs := [(.pointer a12), (.pointer a13), (.pointer a14)]) (cs' := [(.pointer a12), (.pointer a13), (.pointer a14)]) H (i := 1) rfl ti109 rfl rfl rfl rfl rfl (Nat.le_of_ble_eq_true rfl) (by simp [plain]) rfl) wn ?_
   rintro σ21 ⟨H, -⟩
   refine w_end (q_then (c_seq (c_seq (rg (sm (I 0) rfl (w_end (q_then ?_)))))))
   obtain ⟨o22, hj, h'⟩ := bind_some h
   clear h
   refine c_cut (fun e a w => e = .normal ∧ ∃ (ρ : Nat → Value) (σ : St) (aj1 : Option Addr) (cj2 : Nat), a = fr 79 (updL ρ [(0, (Sl aj1 o22 cj2)), (7, (pt b16 0)), (8, (pt b18 0))]) ∧ w = σ.w ∧ Hp S0 σ0 σ [Ch.own 0 0 (Sl aj1 o22 cj2) o22, Ch.pv 0 (.pointer a5) r2.1, Ch.pv 0 (.pointer a6) r2.2.1, Ch.pv 0 (.pointer a7) r2.2.2, Ch.bx n0 b16 0 [(.pointer a5), (.pointer a6), (.pointer a7)] [] [], Ch.pv 0 (.pointer a12) r9.1, Ch.pv 0 (.pointer a13) r9.2.1, Ch.pv 0 (.pointer a14) r9.2.2, Ch.bx n0 b18 0 [(.pointer a12), (.pointer a13), (.pointer a14)] [] []]) ?_ ?_
   ·clear h'
    rename _ = some o22 => h
    refine c_blk (wp_loopM _ h (fun s23 a w => ∃ (ρ : Nat → Value) (σ : St) (aj1 : Option Addr) (cj2 : Nat), a = fr 79 (updL ρ [(0, (Sl aj1 s23.1 cj2)), (7, (pt b16 0)), (8, (pt b18 0)), (18, (I s23.2))]) ∧ w = σ.w ∧ Hp S0 σ0 σ [Ch.own 0 0 (Sl aj1 s23.1 cj2) s23.1, Ch.pv 0 (.pointer a5) r2.1, Ch.pv 0 (.pointer a6) r2.2.1, Ch.pv 0 (.pointer a7) r2.2.2, Ch.bx n0 b16 0 [(.pointer a5), (.pointer a6), (.pointer a7)] [] [], Ch.pv 0 (.pointer a12) r9.1, Ch.pv 0 (.pointer a13) r9.2.1, Ch.pv 0 (.pointer a14) r9.2.2, Ch.bx n0 b18 0 [(.pointer a12), (.pointer a13), (.pointer a14)] [] []]) ⟨_, σ21, Ek, El, fr_join ⟨rfl, rfl, rfl, rfl, trivial⟩, rfl, H.sel' [8, 5, 6, 7, 1, 2, 3, 4, 0] rfl rfl⟩ ?_)
    clear h H
    rintro s23 a w o ⟨ρ, σ24, a25, c26, rfl, rfl, H⟩ h hres
    refine c_seq (rg (st (v := (B (decide (s23.2 < 2)))) (rv_lss (a := s23.2) (b := 2) rfl rfl) (w_end (q_then (c_seq ?_)))))
    refine cd_cond (decide (s23.2 < 2)) rfl (fun hb27 => ?_) (fun hb27 => ?_)
    ·replace h := bif_t hb27 h
     refine c_skip (q_then (c_seq (c_blk (c_seq (rg (sm (I s23.2) rfl (sa (I s23.2) rfl (w_end (q_then ?_)))))))))
     refine rgP (σ := σ24) 9 (by kernel_rfl) (by kernel_rfl) (by kernel_rfl) ?_
     refine sq (v := (Sl a25 s23.1 c26)) (rv_move rfl) (sq (v := (I s23.2)) (rv_move rfl) (sq (v := (pt b16 1)) (rv_fieldAddr (off := 1) (ft := 107) Try.underlying109 rfl ti107 rfl rfl) ?_))
     revert h; refine br fun x28 hx29 h => ?_
     have hl30 := gsel2_lt hx29
     refine sq (v := (pt b16 (1 + s23.2.toNat * 1))) (rv_indexAddr_array Try.underlying107 ti67 rfl rfl hl30.1 hl30.2) ?_
     have hc31 := Hp.selCell (o' := 1) (a0 := a6) (a1 := a7) H 4 1 rfl rfl rfl hx29 rfl
     have hR32 : PV 0 _ (.pointer (bsel s23.2 a6 a7)) x28 := PV.sel (H.pv 2 rfl) (H.pv 3 rfl) hx29
     replace H := H.add (d := Ch.pv 0 (.pointer (bsel s23.2 a6 a7)) x28) hR32 (fun _ h => h)
     clear hR32
     refine sq (v := (.pointer (bsel s23.2 a6 a7))) (rv_load1 Try.underlying67 rfl rfl hc31) (sq (v := (I s23.2)) (rv_move rfl) (sq (v := (pt b18 1)) (rv_fieldAddr (off := 1) (ft := 107) Try.underlying109 rfl ti107 rfl rfl) ?_))
     revert h; refine br fun x33 hx34 h => ?_
     have hl35 := gsel2_lt hx34
     refine sq (v := (pt b18 (1 + s23.2.toNat * 1))) (rv_indexAddr_array Try.underlying107 ti67 rfl rfl hl35.1 hl35.2) ?_
     have hc36 := Hp.selCell (o' := 1) (a0 := a13) (a1 := a14) H 9 1 rfl rfl rfl hx34 rfl
     have hR37 : PV 0 _ (.pointer (bsel s23.2 a13 a14)) x33 := PV.sel (H.pv 7 rfl) (H.pv 8 rfl) hx34
     replace H := H.add (d := Ch.pv 0 (.pointer (bsel s23.2 a13 a14)) x33) hR37 (fun _ h => h)
     clear hR37
     refine sq (v := (.pointer (bsel s23.2 a13 a14))) (rv_load1 Try.underlying67 rfl rfl hc36) (sq_end ?_)
     intro σ38 hm39
     replace H := H.grow (hm39.mono fun _ h => h); clear hm39
     revert h; refine br fun r40 hx41 h => ?_
     have hc42 := ih (Ek := a25) (El := c26) (Em := (bsel s23.2 a6 a7)) (En := (bsel s23.2 a13 a14)) hx41
     refine st_call (cx_call hc42 (ent_f hc42.fn rfl) hn0 (H.sel' [2, 1, 0, 0, 1, 3, 4, 5, 6, 7, 8, 9, 10] rfl rfl : Hp S0 σ0 _ ([_, _, _] ++ _))) wn ?_
     rintro _ σ45 ⟨_, ⟨a43, c44, rfl, rfl⟩, H, -⟩
     replace H : Hp _ _ _ [_, _, _, _, _, _, _, _, _, _, _] := H
     replace H : Hp S0 σ0 σ45 [Ch.own 0 n0 (Sl a43 r40 c44) r40, Ch.pv 0 (.pointer a5) r2.1, Ch.pv 0 (.pointer a6) r2.2.1, Ch.pv 0 (.pointer a7) r2.2.2, Ch.bx n0 b16 0 [(.pointer a5), (.pointer a6), (.pointer a7)] [] [], Ch.pv 0 (.pointer a12) r9.1, Ch.pv 0 (.pointer a13) r9.2.1, Ch.pv 0 (.pointer a14) r9.2.2, Ch.bx n0 b18 0 [(.pointer a12), (.pointer a13), (.pointer a14)] [] []] := H.sel' [0, 3, 4, 5, 6, 7, 8, 9, 10] rfl rfl
     refine sa (Sl a43 r40 c44) rfl (w_end (q_blk (q_then (rg (st (v := (I (w64 (s23.2 + 1)))) (rv_add (a := s23.2) (b := 1) rfl rfl) (sm (I (w64 (s23.2 + 1))) rfl (w_end (q_then ?_))))))))
     replace H := H.ownSc 0 0 0 rfl (Nat.le_refl _)
     obtain rfl := sj h
     exact ⟨_, rfl, _, σ45, a43, c44, fr_join ⟨rfl, rfl, rfl, rfl, trivial⟩, rfl, H.sel' [0, 1, 2, 3, 4, 5, 6, 7, 8] rfl rfl⟩
    ·replace h := bif_f hb27 h
     refine c_exit (q_then_x (q_then_x (q_blk_hit ?_)))
     obtain rfl := sj h
     obtain rfl := hres _ rfl
     exact ⟨rfl, _, σ24, a25, c26, fr_join ⟨rfl, rfl, rfl, trivial⟩, rfl, H.sel' [0, 1, 2, 3, 4, 5, 6, 7, 8] rfl rfl⟩
   ·clear hj
    have h := h'
    clear h' H
    rintro e a w ⟨rfl, ρ, σ46, a47, c48, rfl, rfl, H⟩
    refine q_then (c_seq (c_blk (c_seq ?_)))
    obtain ⟨o49, hj, h'⟩ := bind_some h
    clear h
    refine c_cut (fun e a w => e = .normal ∧ ∃ (ρ : Nat → Value) (σ : St), a = fr 79 (updL ρ [(0, (Sl a47 o22 c48)), (7, (pt b16 0)), (8, (pt b18 0)), (32, (B o49))]) ∧ w = σ.w ∧ Hp S0 σ0 σ [Ch.own 0 0 (Sl a47 o22 c48) o22, Ch.pv 0 (.pointer a5) r2.1, Ch.pv 0 (.pointer a6) r2.2.1, Ch.pv 0 (.pointer a7) r2.2.2, Ch.bx n0 b16 0 [(.pointer a5), (.pointer a6), (.pointer a7)] [] [], Ch.pv 0 (.pointer a12) r9.1, Ch.pv 0 (.pointer a13) r9.2.1, Ch.pv 0 (.pointer a14) r9.2.2, Ch.bx n0 b18 0 [(.pointer a12), (.pointer a13), (.pointer a14)] [] []]) ?_ ?_
    ·clear h'
     rename _ = some o49 => h
     refine rgP (σ := σ46) 16 (by kernel_rfl) (by kernel_rfl) (by kernel_rfl) ?_
     refine sq (v := (pt b16 0)) (rv_fieldAddr (off := 0) (ft := 106) Try.underlying109 rfl ti106 rfl rfl) ?_
     have hc50 := H.cell (u := (.pointer a5)) (o' := 0) 4 0 rfl rfl rfl
     refine sq (v := (.pointer a5)) (rv_load1 Try.underlying106 rfl rfl hc50) (sq (v := (B (!r2.1.isNil))) (rv_neqNilV Try.underlying106 (H.pv 1 rfl) rfl rfl) (sq (v := (B (!r2.1.isNil))) (rv_move rfl) ?_))
     rcases Bool.eq_false_or_eq_true (!r2.1.isNil) with hb51 | hb51
     ·replace h := bif_t hb51 h
      refine sq_g (v := (pt b18 0)) (congrArg some hb51) (rv_fieldAddr (off := 0) (ft := 106) Try.underlying109 rfl ti106 rfl rfl) ?_
      have hc52 := H.cell (u := (.pointer a12)) (o' := 0) 8 0 rfl rfl rfl
      refine sq_g (v := (.pointer a12)) (congrArg some hb51) (rv_load1 Try.underlying106 rfl rfl hc52) (sq_g (v := (B r9.1.isNil)) (congrArg some hb51) (rv_eqlNilV Try.underlying106 (H.pv 5 rfl) rfl rfl) (sq_g (v := (B r9.1.isNil)) (congrArg some hb51) (rv_move rfl) ?_))
      rcases Bool.eq_false_or_eq_true r9.1.isNil with hb53 | hb53
      ·replace h := bif_t hb53 h
       refine sq_skip (congrArg some hb53) (sq_skip (congrArg some hb53) (sq_skip (congrArg some hb53) (sq_skip (congrArg some hb53) (sq_skip (congrArg some hb53) (sq_skip (congrArg some hb53) (sq_skip (congrArg some hb53) (sq_skip (congrArg some hb53) (sq_end ?_))))))))
       intro σ54 hm55
       replace H := H.grow (hm55.mono fun _ h => h); clear hm55
       refine st_skip (congrArg some hb53) (st_skip (congrArg some hb53) (st_g (v := (B true)) (congrArg some hb51) (rv_pick_t (congrArg B hb53) rfl) (st (v := (B true)) (rv_pick_t (congrArg B hb51) rfl) (sa (B true) rfl (w_end ?_)))))
       obtain rfl := sj h
       exact ⟨rfl, _, σ54, fr_join ⟨rfl, rfl, rfl, rfl, trivial⟩, rfl, H.sel' [0, 1, 2, 3, 4, 5, 6, 7, 8] rfl rfl⟩
      ·replace h := bif_f hb53 h
       refine sq_g (v := (pt b16 0)) (congrArg some hb53) (rv_fieldAddr (off := 0) (ft := 106) Try.underlying109 rfl ti106 rfl rfl) ?_
       have hc56 := H.cell (u := (.pointer a5)) (o' := 0) 4 0 rfl rfl rfl
       refine sq_g (v := (.pointer a5)) (congrArg some hb53) (rv_load1 Try.underlying106 rfl rfl hc56) ?_
       revert h; refine br fun x57 hx58 h => ?_
       obtain ⟨b60, o61, hi59⟩ := (H.pv 1 rfl).ex hx58
       refine sq_g (v := (pt b60 o61)) (congrArg some hb53) (rv_nilCheckT hi59 rfl) ?_
       obtain ⟨_, ⟨_, _, rfl, rfl, ⟨_, _, rfl, ⟨_, rfl, hR66⟩, rfl⟩⟩, hl62, hc63⟩ := ((H.pv 1 rfl).at hx58 hi59).cells
       obtain ⟨a64, c65, rfl⟩ := hR66.isSl
       replace H := H.add (d := Ch.ro 0 (Sl a64 x57.2.1 c65) x57.2.1) hR66 (fun _ h => h)
       clear hR66
       refine sq_g (v := (.agg #[(I x57.1), (Sl a64 x57.2.1 c65), (I x57.2.2)])) (congrArg some hb53) (rv_load Try.underlying41 rfl ti41 rfl hl62 hc63) (sq_g (v := (pt b18 0)) (congrArg some hb53) (rv_fieldAddr (off := 0) (ft := 106) Try.underlying109 rfl ti106 rfl rfl) ?_)
       have hc67 := H.cell (u := (.pointer a12)) (o' := 0) 9 0 rfl rfl rfl
       refine sq_g (v := (.pointer a12)) (congrArg some hb53) (rv_load1 Try.underlying106 rfl rfl hc67) ?_
       revert h; refine br fun x68 hx69 h => ?_
       obtain ⟨b71, o72, hi70⟩ := (H.pv 6 rfl).ex hx69
       refine sq_g (v := (pt b71 o72)) (congrArg some hb53) (rv_nilCheckT hi70 rfl) ?_
       obtain ⟨_, ⟨_, _, rfl, rfl, ⟨_, _, rfl, ⟨_, rfl, hR77⟩, rfl⟩⟩, hl73, hc74⟩ := ((H.pv 6 rfl).at hx69 hi70).cells
       obtain ⟨a75, c76, rfl⟩ := hR77.isSl
       replace H := H.add (d := Ch.ro 0 (Sl a75 x68.2.1 c76) x68.2.1) hR77 (fun _ h => h)
       clear hR77
       refine sq_g (v := (.agg #[(I x68.1), (Sl a75 x68.2.1 c76), (I x68.2.2)])) (congrArg some hb53) (rv_load Try.underlying41 rfl ti41 rfl hl73 hc74) (sq_end ?_)
       intro σ78 hm79
       replace H := H.grow (hm79.mono fun _ h => h); clear hm79
       revert h; refine br fun r80 hx81 h => ?_
       have hc82 := c_impl_equalItems (Ed := a64) (Ee := c65) (Ef := a75) (Eg := c76) hx81
       refine st_call (cx_call hc82 (ent_f hc82.fn rfl) hn0 (H.sel' [1, 0, 0, 1, 2, 3, 4, 5, 6, 7, 8, 9, 10] rfl rfl : Hp S0 σ0 _ ([_, _] ++ _))) (wanted_yes rfl (by exact (congrArg some hb53))) ?_
       rintro _ σ83 ⟨_, ⟨rfl, rfl⟩, H, -⟩
       replace H : Hp _ _ _ [_, _, _, _, _, _, _, _, _, _, _] := H
       replace H : Hp S0 σ0 σ83 [Ch.own 0 0 (Sl a47 o22 c48) o22, Ch.pv 0 (.pointer a5) r2.1, Ch.pv 0 (.pointer a6) r2.2.1, Ch.pv 0 (.pointer a7) r2.2.2, Ch.bx n0 b16 0 [(.pointer a5), (.pointer a6), (.pointer a7)] [] [], Ch.pv 0 (.pointer a12) r9.1, Ch.pv 0 (.pointer a13) r9.2.1, Ch.pv 0 (.pointer a14) r9.2.2, Ch.bx n0 b18 0 [(.pointer a12), (.pointer a13), (.pointer a14)] [] []] := H.sel' [2, 3, 4, 5, 6, 7, 8, 9, 10] rfl rfl
       refine st_g (v := (B (!r80))) (congrArg some hb53) (rv_not rfl) (st_g (v := (B (!r80))) (congrArg some hb51) (rv_pick_f (congrArg B hb53) rfl) (st (v := (B (!r80))) (rv_pick_t (congrArg B hb51) rfl) (sa (B (!r80)) rfl (w_end ?_))))
       obtain rfl := sj h
       exact ⟨rfl, _, σ83, fr_join ⟨rfl, rfl, rfl, rfl, trivial⟩, rfl, H.sel' [0, 1, 2, 3, 4, 5, 6, 7, 8] rfl rfl⟩
     ·replace h := bif_f hb51 h
      refine sq_skip (congrArg some hb51) (sq_skip (congrArg some hb51) (sq_skip (congrArg some hb51) (sq_skip (congrArg some hb51) (sq_skip_u rfl (sq_skip_u rfl (sq_skip_u rfl (sq_skip_u rfl (sq_skip_u rfl (sq_skip_u rfl (sq_skip_u rfl (sq_skip_u rfl ?_)))))))))))
      refine sq_end ?_
      intro σ84 hm85
      replace H := H.grow (hm85.mono fun _ h => h); clear hm85
      refine st_skip_u rfl (st_skip_u rfl (st_skip (congrArg some hb51) (st (v := (B false)) (rv_pick_f (congrArg B hb51) rfl) (sa (B false) rfl (w_end ?_)))))
      obtain rfl := sj h
      exact ⟨rfl, _, σ84, fr_join ⟨rfl, rfl, rfl, rfl, trivial⟩, rfl, H.sel' [0, 1, 2, 3, 4, 5, 6, 7, 8] rfl rfl⟩
    ·clear hj
     have h := h'
     clear h' H
     rintro e a w ⟨rfl, ρ, σ86, rfl, rfl, H⟩
     refine q_then ?_
     refine cd_cond o49 rfl (fun hb87 => ?_) (fun hb87 => ?_)
     ·replace h := bif_t hb87 h
      refine c_seq (rg (sm (Sl a47 o22 c48) rfl (st (v := (pt b16 0)) (rv_fieldAddr (off := 0) (ft := 106) Try.underlying109 rfl ti106 rfl rfl) ?_)))
      have hc88 := H.cell (u := (.pointer a5)) (o' := 0) 4 0 rfl rfl rfl
      refine st (v := (.pointer a5)) (rv_load1 Try.underlying106 rfl rfl hc88) ?_
      revert h; refine br fun x89 hx90 h => ?_
      obtain ⟨b92, o93, hi91⟩ := (H.pv 1 rfl).ex hx90
      refine st (v := (pt b92 o93)) (rv_nilCheckT hi91 rfl) (st (v := (pt b92 (o93 + 0))) (rv_fieldAddr (off := 0) (ft := 3) Try.underlying41 rfl ti3 rfl rfl) ?_)
      have hc94 := ((H.pv 1 rfl).at hx90 hi91).fst.int
      refine st (v := (I x89.1)) (rv_load1 Try.underlying3 rfl rfl hc94) ?_
      refine st_ex (ex_buildSlice (el := n0) (xs := ([x89.1] : List Int)) (ps := [(0, (I x89.1))]) (cs := [(I x89.1)]) H hn0 Try.underlying24 ti3 rfl rfl (by kernel_rfl) (.cons (c := [(I x89.1)]) rfl (.nil)) rfl) wn ?_
      rintro _ σ96 ⟨b95, rfl, H, -⟩
      replace H : Hp S0 σ0 σ96 [Ch.own n0 n0 (Sl (some ⟨b95, 0, none⟩) ([x89.1] : List Int) 1) ([x89.1] : List Int), Ch.own 0 0 (Sl a47 o22 c48) o22] := H.sel' [0, 1] rfl rfl
      revert h; refine br fun xs97 hx98 h => ?_
      refine st_ex (ex_append H (i := 1) rfl Try.underlying24 Try.underlying24 ti3 rfl rfl (by decide) ((H.own 0 rfl).rd.sc) hx98 (Nat.zero_le _) rfl rfl) wn ?_
      rintro _ σ101 ⟨a99, c100, rfl, H, -⟩
      refine sa (Sl a99 xs97 c100) rfl (w_end (q_then (c_ret (q_blk_r (q_then_r ?_)))))
      replace H := H.ownSc 0 0 n0 rfl (Nat.le_refl _)
      obtain rfl := sj h
      exact fin_ret (v := (Sl a99 xs97 c100)) (results_ok Try.results66 (res_tmp (v := (Sl a99 xs97 c100)) rfl res_nil) rfl) ⟨a99, c100, rfl, rfl⟩ (H.sel' [0] rfl rfl)
     ·replace h := bif_f hb87 h
      refine c_seq ?_
      obtain ⟨o102, hj, h'⟩ := bind_some h
      clear h
      refine c_cut (fun e a w => e = .normal ∧ ∃ (ρ : Nat → Value) (σ : St), a = fr 79 (updL ρ [(0, (Sl a47 o22 c48)), (8, (pt b18 0)), (61, (B o102))]) ∧ w = σ.w ∧ Hp S0 σ0 σ [Ch.own 0 0 (Sl a47 o22 c48) o22, Ch.pv 0 (.pointer a12) r9.1, Ch.pv 0 (.pointer a13) r9.2.1, Ch.pv 0 (.pointer a14) r9.2.2, Ch.bx n0 b18 0 [(.pointer a12), (.pointer a13), (.pointer a14)] [] []]) ?_ ?_
      ·clear h'
       rename _ = some o102 => h
       refine rg (st (v := (pt b16 0)) (rv_fieldAddr (off := 0) (ft := 106) Try.underlying109 rfl ti106 rfl rfl) ?_)
       have hc103 := H.cell (u := (.pointer a5)) (o' := 0) 4 0 rfl rfl rfl
       refine st (v := (.pointer a5)) (rv_load1 Try.underlying106 rfl rfl hc103) (st (v := (B r2.1.isNil)) (rv_eqlNilV Try.underlying106 (H.pv 1 rfl) rfl rfl) (sm (B r2.1.isNil) rfl ?_))
       rcases Bool.eq_false_or_eq_true r2.1.isNil with hb104 | hb104
       ·replace h := bif_t hb104 h
        refine st_g (v := (pt b18 0)) (congrArg some hb104) (rv_fieldAddr (off := 0) (ft := 106) Try.underlying109 rfl ti106 rfl rfl) ?_
        have hc105 := H.cell (u := (.pointer a12)) (o' := 0) 8 0 rfl rfl rfl
        refine st_g (v := (.pointer a12)) (congrArg some hb104) (rv_load1 Try.underlying106 rfl rfl hc105) (st_g (v := (B (!r9.1.isNil))) (congrArg some hb104) (rv_neqNilV Try.underlying106 (H.pv 5 rfl) rfl rfl) (st (v := (B (!r9.1.isNil))) (rv_pick_t (congrArg B hb104) rfl) (sa (B (!r9.1.isNil)) rfl (w_end ?_))))
        obtain rfl := sj h
        exact ⟨rfl, _, σ86, fr_join ⟨rfl, rfl, rfl, trivial⟩, rfl, H.sel' [0, 5, 6, 7, 8] rfl rfl⟩
       ·replace h := bif_f hb104 h
        refine st_skip (congrArg some hb104) (st_skip (congrArg some hb104) (st_skip (congrArg some hb104) (st (v := (B false)) (rv_pick_f (congrArg B hb104) rfl) (sa (B false) rfl (w_end ?_)))))
        obtain rfl := sj h
        exact ⟨rfl, _, σ86, fr_join ⟨rfl, rfl, rfl, trivial⟩, rfl, H.sel' [0, 5, 6, 7, 8] rfl rfl⟩
      ·clear hj
       have h := h'
       clear h' H
       rintro e a w ⟨rfl, ρ, σ106, rfl, rfl, H⟩
       refine q_then ?_
       refine cd_cond o102 rfl (fun hb107 => ?_) (fun hb107 => ?_)
       ·replace h := bif_t hb107 h
        refine c_seq (rg (sm (Sl a47 o22 c48) rfl (st (v := (pt b18 0)) (rv_fieldAddr (off := 0) (ft := 106) Try.underlying109 rfl ti106 rfl rfl) ?_)))
        have hc108 := H.cell (u := (.pointer a12)) (o' := 0) 4 0 rfl rfl rfl
        refine st (v := (.pointer a12)) (rv_load1 Try.underlying106 rfl rfl hc108) ?_
        revert h; refine br fun x109 hx110 h => ?_
        obtain ⟨b112, o113, hi111⟩ := (H.pv 1 rfl).ex hx110
        refine st (v := (pt b112 o113)) (rv_nilCheckT hi111 rfl) (st (v := (pt b112 (o113 + 0))) (rv_fieldAddr (off := 0) (ft := 3) Try.underlying41 rfl ti3 rfl rfl) ?_)
        have hc114 := ((H.pv 1 rfl).at hx110 hi111).fst.int
        refine st (v := (I x109.1)) (rv_load1 Try.underlying3 rfl rfl hc114) ?_
        refine st_ex (ex_buildSlice (el := n0) (xs := ([x109.1] : List Int)) (ps := [(0, (I x109.1))]) (cs := [(I x109.1)]) H hn0 Try.underlying24 ti3 rfl rfl (by kernel_rfl) (.cons (c := [(I x109.1)]) rfl (.nil)) rfl) wn ?_
        rintro _ σ116 ⟨b115, rfl, H, -⟩
        revert h; refine br fun xs117 hx118 h => ?_
        refine st_ex (ex_append H (i := 1) rfl Try.underlying24 Try.underlying24 ti3 rfl rfl (by decide) ((H.own 0 rfl).rd.sc) hx118 (Nat.zero_le _) rfl rfl) wn ?_
        rintro _ σ121 ⟨a119, c120, rfl, H, -⟩
        refine sa (Sl a119 xs117 c120) rfl (w_end (q_then (c_ret (q_blk_r (q_then_r ?_)))))
        replace H := H.ownSc 0 0 n0 rfl (Nat.le_refl _)
        obtain rfl := sj h
        exact fin_ret (v := (Sl a119 xs117 c120)) (results_ok Try.results66 (res_tmp (v := (Sl a119 xs117 c120)) rfl res_nil) rfl) ⟨a119, c120, rfl, rfl⟩ (H.sel' [0] rfl rfl)
       ·replace h := bif_f hb107 h
        refine c_skip (q_blk (q_then (c_seq (rg (sm (Sl a47 o22 c48) rfl (sa (Sl a47 o22 c48) rfl (w_end (q_then (c_ret ?_)))))))))
        replace H := H.ownSc 0 0 n0 rfl (Nat.le_refl _)
        obtain rfl := sj h
        exact fin_ret (v := (Sl a47 o22 c48)) (results_ok Try.results66 (res_tmp (v := (Sl a47 o22 c48)) rfl res_nil) rfl) ⟨a47, c48, rfl, rfl⟩ (H.sel' [0] rfl rfl)

theorem c_impl_ChangedKeys {Cc : (List (Int × (Int × (List Int) × Int))) × (List Int)} {Eo : Int} {Ep : Int} {Cd : Option Addr} {Ce : Nat} {Cf : Option Addr} {Cg : Nat} {r : (List Int)} (h : M.impl_ChangedKeys Cc Eo Ep = some r) :
    Cal2 Try.prog 36 [(.agg #[(Sl Cd Cc.1 Ce), (Sl Cf Cc.2 Cg)]), (I Eo), (I Ep)] [Ch.ro 0 (Sl Cd Cc.1 Ce) Cc.1, Ch.ro 0 (Sl Cf Cc.2 Cg) Cc.2] (fun n0 v L => ∃ (az1 : Option Addr), ∃ (cz2 : Nat), v = (Sl az1 r cz2) ∧ L = [Ch.own 0 n0 (Sl az1 r cz2) r]) := by
 refine cal2 (n := 36) Try.func36 rfl rfl rfl rfl ?_
 intro S0 σ0 n0 hn0 H
 unfold M.impl_ChangedKeys at h
 refine c_seq (rg (st_ex (ex_box (cs := [(Sl Cd Cc.1 Ce), (Sl Cf Cc.2 Cg)]) H hn0 rfl rfl) wn ?_))
 rintro _ σ2 ⟨b1, rfl, H, -⟩
 refine sa (.slice none 0 0) rfl (w_end (q_then (c_seq (c_seq ?_))))
 obtain ⟨o3, hj, h'⟩ := bind_some h
 clear h
 refine c_cut (fun e a w => e = .normal ∧ ∃ (ρ : Nat → Value) (σ : St), a = fr 36 (updL ρ [(1, (I Eo)), (2, (I Ep)), (3, (pt b1 0)), (20, (B o3))]) ∧ w = σ.w ∧ Hp S0 σ0 σ [Ch.ro 0 (Sl Cd Cc.1 Ce) Cc.1, Ch.ro 0 (Sl Cf Cc.2 Cg) Cc.2, Ch.bx n0 b1 0 [(Sl Cd Cc.1 Ce), (Sl Cf Cc.2 Cg)] [] []]) ?_ ?_
 ·clear h'
  rename _ = some o3 => h
  refine rg ?_
  have hc4 := H.cells 0 rfl
  refine st (v := (.agg #[(Sl Cd Cc.1 Ce), (Sl Cf Cc.2 Cg)])) (rv_load (cs := [(Sl Cd Cc.1 Ce), (Sl Cf Cc.2 Cg)]) Try.underlying26 rfl ti26 rfl rfl hc4) ?_
  revert h; refine br fun r5 hx6 h => ?_
  have hc7 := c_impl_ValidHistory (Cd := Cd) (Ce := Ce) (Cf := Cf) (Cg := Cg) hx6
  refine st_call (cx_call hc7 (ent_f hc7.fn rfl) hn0 (H.sel' [1, 2, 0, 1, 2] rfl rfl : Hp S0 σ0 _ ([_, _] ++ _))) wn ?_
  rintro _ σ8 ⟨_, ⟨rfl, rfl⟩, H, -⟩
  replace H : Hp _ _ _ [_, _, _] := H
  refine st (v := (B (!r5))) (rv_not rfl) (sm (B (!r5)) rfl ?_)
  rcases Bool.eq_false_or_eq_true (!r5) with hb9 | hb9
  ·replace h := bif_t hb9 h
   refine st_skip (congrArg some hb9) (st_skip (congrArg some hb9) (st_skip (congrArg some hb9) (st (v := (B true)) (rv_pick_t (congrArg B hb9) rfl) (sm (B true) rfl (st_skip rfl (st_skip rfl (st_skip rfl (st (v := (B true)) (rv_pick_t rfl rfl) (w_end ?_)))))))))
   obtain rfl := sj h
   exact ⟨rfl, _, σ8, fr_join ⟨rfl, rfl, rfl, rfl, trivial⟩, rfl, H.sel' [1, 2, 0] rfl rfl⟩
  ·replace h := bif_f hb9 h
   refine st_g (v := (I Eo)) (congrArg some hb9) (rv_move rfl) ?_
   revert h; refine br fun r10 hx11 h => ?_
   have hc12 := c_impl_validMoment hx11
   refine st_call (cx_call hc12 (ent_f hc12.fn rfl) hn0 (H.sel' [0, 1, 2] rfl rfl : Hp S0 σ0 _ ([] ++ _))) (wanted_yes rfl (by exact (congrArg some hb9))) ?_
   rintro _ σ13 ⟨_, ⟨rfl, rfl⟩, H, -⟩
   replace H : Hp _ _ _ [_, _, _] := H
   refine st_g (v := (B (!r10))) (congrArg some hb9) (rv_not rfl) (st (v := (B (!r10))) (rv_pick_f (congrArg B hb9) rfl) (sm (B (!r10)) rfl ?_))
   rcases Bool.eq_false_or_eq_true (!r10) with hb14 | hb14
   ·replace h := bif_t hb14 h
    refine st_skip (congrArg some hb14) (st_skip (congrArg some hb14) (st_skip (congrArg some hb14) (st (v := (B true)) (rv_pick_t (congrArg B hb14) rfl) (w_end ?_))))
    obtain rfl := sj h
    exact ⟨rfl, _, σ13, fr_join ⟨rfl, rfl, rfl, rfl, trivial⟩, rfl, H.sel' [1, 2, 0] rfl rfl⟩
   ·replace h := bif_f hb14 h
    refine st_g (v := (I Ep)) (congrArg some hb14) (rv_move rfl) ?_
    revert h; refine br fun r15 hx16 h => ?_
    have hc17 := c_impl_validMoment hx16
    refine st_call (cx_call hc17 (ent_f hc17.fn rfl) hn0 (H.sel' [0, 1, 2] rfl rfl : Hp S0 σ0 _ ([] ++ _))) (wanted_yes rfl (by exact (congrArg some hb14))) ?_
    rintro _ σ18 ⟨_, ⟨rfl, rfl⟩, H, -⟩
    replace H : Hp _ _ _ [_, _, _] := H
    refine st_g (v := (B (!r15))) (congrArg some hb14) (rv_not rfl) (st (v := (B (!r15))) (rv_pick_f (congrArg B hb14) rfl) (w_end ?_))
    obtain rfl := sj h
    exact ⟨rfl, _, σ18, fr_join ⟨rfl, rfl, rfl, rfl, trivial⟩, rfl, H.sel' [1, 2, 0] rfl rfl⟩
 ·clear hj
  have h := h'
  clear h' H
  rintro e a w ⟨rfl, ρ, σ19, rfl, rfl, H⟩
  refine q_then ?_
  refine cd_cond o3 rfl (fun hb20 => ?_) (fun hb20 => ?_)
  ·replace h := bif_t hb20 h
   refine c_seq (rg (sa (.slice none 0 0) rfl (w_end (q_then (c_ret (q_then_r ?_))))))
   replace H := H.nilOwn Int 0 n0
   obtain rfl := sj h
   exact fin_ret (v := (.slice none 0 0)) (results_ok Try.results36 (res_tmp (v := (.slice none 0 0)) rfl res_nil) rfl) ⟨none, 0, rfl, rfl⟩ (H.sel' [0] rfl rfl)
  ·replace h := bif_f hb20 h
   refine c_skip (q_then (c_seq (rg ?_)))
   have hc21 := H.cells 2 rfl
   refine st (v := (.agg #[(Sl Cd Cc.1 Ce), (Sl Cf Cc.2 Cg)])) (rv_load (cs := [(Sl Cd Cc.1 Ce), (Sl Cf Cc.2 Cg)]) Try.underlying26 rfl ti26 rfl rfl hc21) ?_
   revert h; refine br fun r22 hx23 h => ?_
   have hc24 := c_impl_History_versions (Cd := Cd) (Ce := Ce) (Cf := Cf) (Cg := Cg) hx23
   refine st_call (cx_call hc24 (ent_f hc24.fn rfl) hn0 (H.sel' [0, 1, 0, 1, 2] rfl rfl : Hp S0 σ0 _ ([_, _] ++ _))) wn ?_
   rintro _ σ27 ⟨_, ⟨a25, c26, rfl, rfl⟩, H, -⟩
   replace H : Hp _ _ _ [_, _, _, _] := H
   refine sa (Sl a25 r22 c26) rfl (w_end (q_then (c_seq ?_)))
   have hc28 := H.cells 3 rfl
   revert h; refine br fun r29 hx30 h => ?_
   have hc31 := c_impl_History_entriesUntil (Cd := Cd) (Ce := Ce) (Cf := Cf) (Cg := Cg) hx30
   revert h; refine br fun x32 hx33 h => ?_
   obtain ⟨b35, o36, hi34, -⟩ := (H.own 0 rfl).ix hx33
   obtain ⟨v40, hc39, hR38⟩ := ((H.own 0 rfl).at hx33 hi34).vr
   obtain ⟨a37, rfl⟩ := hR38.isPtr
   replace H := H.add (d := Ch.pv 0 (.pointer a37) x32) hR38 (fun _ h => h)
   clear hR38
   have hc41 := H.cells 4 rfl
   revert h; refine br fun r42 hx43 h => ?_
   have hc44 := c_impl_History_entriesUntil (Cd := Cd) (Ce := Ce) (Cf := Cf) (Cg := Cg) hx43
   revert h; refine br fun x45 hx46 h => ?_
   obtain ⟨b48, o49, hi47, -⟩ := (H.own 1 rfl).ix hx46
   obtain ⟨v53, hc52, hR51⟩ := ((H.own 1 rfl).at hx46 hi47).vr
   obtain ⟨a50, rfl⟩ := hR51.isPtr
   replace H := H.add (d := Ch.pv 0 (.pointer a50) x45) hR51 (fun _ h => h)
   clear hR51
   have Hs := H
   refine rg2 (σ := σ27) (Nm := Unit) 12 [3, 9] [[false, false], [true, false], [true, true]] [[(0, 0), (1, 1), (2, 2)], [(0, 0)], [(0, 0)], [(0, 1)], [(1, 1), (2, 2)], [(1, 1), (2, 2)], [(0, 0), (1, 1), (2, 2)], [(0, 0), (1, 1)], [(0, 0), (1, 1)], [(1, 2)], [(2, 2)], [(2, 2)]] 2 [fun _ => fun σm => Hp S0 σ0 σm [Ch.pv 0 (.pointer a50) x45, Ch.pv 0 (.pointer a37) x32, Ch.own n0 0 (Sl a25 r22 c26) r22, Ch.ro 0 (Sl Cd Cc.1 Ce) Cc.1, Ch.ro 0 (Sl Cf Cc.2 Cg) Cc.2, Ch.bx n0 b1 0 [(Sl Cd Cc.1 Ce), (Sl Cf Cc.2 Cg)] [] []] ∧ Md (cov []) σ27 σm, fun _ => fun σm => Hp S0 σ0 σm [Ch.pv 0 (.pointer a50) x45, Ch.pv 0 (.pointer a37) x32, Ch.own n0 0 (Sl a25 r22 c26) r22, Ch.ro 0 (Sl Cd Cc.1 Ce) Cc.1, Ch.ro 0 (Sl Cf Cc.2 Cg) Cc.2, Ch.bx n0 b1 0 [(Sl Cd Cc.1 Ce), (Sl Cf Cc.2 Cg)] [] []] ∧ Md (cov []) σ27 σm, fun _ => fun σm => Hp S0 σ0 σm [Ch.pv 0 (.pointer a50) x45, Ch.pv 0 (.pointer a37) x32, Ch.own n0 0 (Sl a25 r22 c26) r22, Ch.ro 0 (Sl Cd Cc.1 Ce) Cc.1, Ch.ro 0 (Sl Cf Cc.2 Cg) Cc.2, Ch.bx n0 b1 0 [(Sl Cd Cc.1 Ce), (Sl Cf Cc.2 Cg)] [] []] ∧ Md (cov []) σ27 σm] [fun _ => (Sl a25 r22 c26), fun _ => (.agg #[(Sl Cd Cc.1 Ce), (Sl Cf Cc.2 Cg)]), fun _ => (I Eo), fun _ => (I r29), fun _ => (pt b35 o36), fun _ => (.pointer a37), fun _ => (Sl a25 r22 c26), fun _ => (.agg #[(Sl Cd Cc.1 Ce), (Sl Cf Cc.2 Cg)]), fun _ => (I Ep), fun _ => (I r42), fun _ => (pt b48 o49), fun _ => (.pointer a50)] () (by kernel_rfl) (by kernel_rfl) ?_ ?_ ?_
   ·intro σm m0
    exact ⟨H.grow (m0.mono fun _ h => h.elim), m0⟩
   ·refine ac rfl (by
      intro k _nm ρ σm hJ hoff hdep
      have e7 := look_off (N := 36) (hoff 7 rfl) rfl
      exact dp_v (v := (Sl a25 r22 c26)) wn (rv_move e7) rfl hJ) ?_
    refine all_cons (by
      refine ⟨?_, ?_⟩
      ·intro _nm ρ σm hJ hoff hdep
       have e3 := look_off (N := 36) (hoff 3 rfl) rfl
       obtain ⟨H, m⟩ := id hJ
       have hc28 := H.cells 5 rfl
       exact dp_v (v := (.agg #[(Sl Cd Cc.1 Ce), (Sl Cf Cc.2 Cg)])) wn (rv_load (cs := [(Sl Cd Cc.1 Ce), (Sl Cf Cc.2 Cg)]) Try.underlying26 rfl ti26 e3 rfl hc28) rfl hJ
      trivial) ?_
    refine ac rfl (by
      intro k _nm ρ σm hJ hoff hdep
      have e1 := look_off (N := 36) (hoff 1 rfl) rfl
      exact dp_v (v := (I Eo)) wn (rv_move e1) rfl hJ) ?_
    refine all_cons (by
      refine ⟨?_, ?_⟩
      ·intro _nm ρ σm hJ hoff hdep
       have e24 : look 36 ρ 24 = (.agg #[(Sl Cd Cc.1 Ce), (Sl Cf Cc.2 Cg)]) := hdep 1 rfl rfl 24 rfl
       have e25 : look 36 ρ 25 = (I Eo) := hdep 2 rfl rfl 25 rfl
       obtain ⟨H, m⟩ := id hJ
       refine dp_cx wn (cx_call hc31 (ent_f hc31.fn (by show [look 36 ρ 24, look 36 ρ 25] = _; rw [e24, e25])) hn0 (H.sel' [3, 4, 0, 1, 2, 3, 4, 5] rfl rfl : Hp S0 σ0 _ ([_, _] ++ _))) ?_
       rintro _ σq ⟨_, ⟨rfl, rfl⟩, H2, m2⟩
       exact ⟨_, (), rfl, rfl, ⟨H2.sel' [0, 1, 2, 3, 4, 5] rfl rfl, m.comp0 (m2.mono (fun i h => by simp [cov, Ch.ro] at h))⟩, stab [0, 1, 2, 6, 7, 8] (by kernel_rfl) ⟨rfl, rfl, rfl, rfl, rfl, rfl, trivial⟩⟩
      trivial) ?_
    refine ac rfl (by
      intro k _nm ρ σm hJ hoff hdep
      have e23 := hdep 0 rfl rfl 23 rfl
      have e26 := hdep 3 rfl rfl 26 rfl
      exact dp_v (v := (pt b35 o36)) wn (rv_ix Try.underlying68 ti67 e23 e26 hi34) rfl hJ) ?_
    refine all_cons (by
      refine ⟨?_, ?_⟩
      ·intro _nm ρ σm hJ hoff hdep
       have e27 := hdep 4 rfl rfl 27 rfl
       obtain ⟨H, m⟩ := id hJ
       replace hc39 := m.hcell hc39 nocov
       exact dp_v (v := (.pointer a37)) wn (rv_load1 Try.underlying67 rfl e27 hc39) rfl hJ
      refine ⟨?_, ?_⟩
      ·intro _nm ρ σm hJ hoff hdep
       have e27 := hdep 4 rfl rfl 27 rfl
       obtain ⟨H, m⟩ := id hJ
       replace hc39 := m.hcell hc39 nocov
       exact dp_v (v := (.pointer a37)) wn (rv_load1 Try.underlying67 rfl e27 hc39) rfl hJ
      trivial) ?_
    refine ac rfl (by
      intro k _nm ρ σm hJ hoff hdep
      have e7 := look_off (N := 36) (hoff 7 rfl) rfl
      exact dp_v (v := (Sl a25 r22 c26)) wn (rv_move e7) rfl hJ) ?_
    refine all_cons (by
      refine ⟨?_, ?_⟩
      ·intro _nm ρ σm hJ hoff hdep
       have e3 := look_off (N := 36) (hoff 3 rfl) rfl
       obtain ⟨H, m⟩ := id hJ
       have hc41 := H.cells 5 rfl
       exact dp_v (v := (.agg #[(Sl Cd Cc.1 Ce), (Sl Cf Cc.2 Cg)])) wn (rv_load (cs := [(Sl Cd Cc.1 Ce), (Sl Cf Cc.2 Cg)]) Try.underlying26 rfl ti26 e3 rfl hc41) rfl hJ
      refine ⟨?_, ?_⟩
      ·intro _nm ρ σm hJ hoff hdep
       have e3 := look_off (N := 36) (hoff 3 rfl) rfl
       obtain ⟨H, m⟩ := id hJ
       have hc41 := H.cells 5 rfl
       exact dp_v (v := (.agg #[(Sl Cd Cc.1 Ce), (Sl Cf Cc.2 Cg)])) wn (rv_load (cs := [(Sl Cd Cc.1 Ce), (Sl Cf Cc.2 Cg)]) Try.underlying26 rfl ti26 e3 rfl hc41) rfl hJ
      trivial) ?_
    refine ac rfl (by
      intro k _nm ρ σm hJ hoff hdep
      have e2 := look_off (N := 36) (hoff 2 rfl) rfl
      exact dp_v (v := (I Ep)) wn (rv_move e2) rfl hJ) ?_
    refine all_cons (by
      refine ⟨?_, ?_⟩
      ·intro _nm ρ σm hJ hoff hdep
       have e30 : look 36 ρ 30 = (.agg #[(Sl Cd Cc.1 Ce), (Sl Cf Cc.2 Cg)]) := hdep 7 rfl rfl 30 rfl
       have e31 : look 36 ρ 31 = (I Ep) := hdep 8 rfl rfl 31 rfl
       obtain ⟨H, m⟩ := id hJ
       refine dp_cx wn (cx_call hc44 (ent_f hc44.fn (by show [look 36 ρ 30, look 36 ρ 31] = _; rw [e30, e31])) hn0 (H.sel' [3, 4, 0, 1, 2, 3, 4, 5] rfl rfl : Hp S0 σ0 _ ([_, _] ++ _))) ?_
       rintro _ σq ⟨_, ⟨rfl, rfl⟩, H2, m2⟩
       exact ⟨_, (), rfl, rfl, ⟨H2.sel' [0, 1, 2, 3, 4, 5] rfl rfl, m.comp0 (m2.mono (fun i h => by simp [cov, Ch.ro] at h))⟩, stab [0, 1, 2, 3, 4, 5, 6, 7, 8] (by kernel_rfl) ⟨rfl, rfl, rfl, rfl, rfl, rfl, rfl, rfl, rfl, trivial⟩⟩
      trivial) ?_
    refine ac rfl (by
      intro k _nm ρ σm hJ hoff hdep
      have e29 := hdep 6 rfl rfl 29 rfl
      have e32 := hdep 9 rfl rfl 32 rfl
      exact dp_v (v := (pt b48 o49)) wn (rv_ix Try.underlying68 ti67 e29 e32 hi47) rfl hJ) ?_
    refine all_cons (by
      refine ⟨?_, ?_⟩
      ·intro _nm ρ σm hJ hoff hdep
       have e33 := hdep 10 rfl rfl 33 rfl
       obtain ⟨H, m⟩ := id hJ
       replace hc52 := m.hcell hc52 nocov
       exact dp_v (v := (.pointer a50)) wn (rv_load1 Try.underlying67 rfl e33 hc52) rfl hJ
      trivial) ?_
    exact all_nil
   ·intro _nm ρ σ54 hJ hoff hrel
    have e28 := hrel 5 rfl 28 rfl
    have e34 := hrel 11 rfl 34 rfl
    obtain ⟨H, -⟩ := (show Hp S0 σ0 σ54 [Ch.pv 0 (.pointer a50) x45, Ch.pv 0 (.pointer a37) x32, Ch.own n0 0 (Sl a25 r22 c26) r22, Ch.ro 0 (Sl Cd Cc.1 Ce) Cc.1, Ch.ro 0 (Sl Cf Cc.2 Cg) Cc.2, Ch.bx n0 b1 0 [(Sl Cd Cc.1 Ce), (Sl Cf Cc.2 Cg)] [] []] ∧ Md (cov []) σ27 σ54 from hJ)
    clear hJ Hs
    rw [fr_lookL (L := [(28, (.pointer a37)), (34, (.pointer a50))]) ⟨e28, e34, trivial⟩]
    clear hoff hrel e28 e34
    replace H := H.nilOwn Int 0 0
    revert h; refine br fun r55 hx56 h => ?_
    have hc57 := c_impl_appendChanged 100 (Ek := none) (El := 0) (Em := a37) (En := a50) hx56
    refine st_call (cx_call hc57 (ent_f hc57.fn rfl) hn0 (H.sel' [0, 2, 1, 1, 2, 3, 4, 5, 6] rfl rfl : Hp S0 σ0 _ ([_, _, _] ++ _))) wn ?_
    rintro _ σ60 ⟨_, ⟨a58, c59, rfl, rfl⟩, H, -⟩
    replace H : Hp _ _ _ [_, _, _, _, _, _, _] := H
    refine sa (Sl a58 r55 c59) rfl (w_end (q_then (c_ret ?_)))
    obtain rfl := sj h
    exact fin_ret (v := (Sl a58 r55 c59)) (results_ok Try.results36 (res_tmp (v := (Sl a58 r55 c59)) rfl res_nil) rfl) ⟨a58, c59, rfl, rfl⟩ (H.sel' [0] rfl rfl)

theorem c_spec_toInt {Er : Bool}  {r : Int} (h : M.spec_toInt Er = some r) :
    Cal2 Try.prog 83 [(B Er)] [] (fun n0 v L => v = (I r) ∧ L = []) := by
 refine cal2 (n := 4) Try.func83 rfl rfl rfl rfl ?_
 intro S0 σ0 n0 hn0 H
 unfold M.spec_toInt at h
 refine c_seq (rg (sa (I 0) rfl (w_end (q_then (c_seq (c_seq (rg (sm (B Er) rfl (w_end (q_then ?_))))))))))
 refine cd_cond Er rfl (fun hb1 => ?_) (fun hb1 => ?_)
 ·replace h := bif_t hb1 h
  refine c_seq (rg (sa (I 1) rfl (w_end (q_then (c_ret (q_then_r ?_))))))
  obtain rfl := sj h
  exact fin_ret (v := (I 1)) (results_ok Try.results83 (res_tmp (v := (I 1)) rfl res_nil) rfl) ⟨rfl, rfl⟩ (H.sel' [] rfl rfl)
 ·replace h := bif_f hb1 h
  refine c_skip (q_then (c_seq (rg (sa (I 0) rfl (w_end (q_then (c_ret ?_)))))))
  obtain rfl := sj h
  exact fin_ret (v := (I 0)) (results_ok Try.results83 (res_tmp (v := (I 0)) rfl res_nil) rfl) ⟨rfl, rfl⟩ (H.sel' [] rfl rfl)

theorem c_spec_upTo {Cc : (List (Int × (Int × (List Int) × Int))) × (List Int)} {Cq : Int} {Cd : Option Addr} {Ce : Nat} {Cf : Option Addr} {Cg : Nat} {r : Int} (h : M.spec_upTo Cc Cq = some r) :
    Cal2 Try.prog 52 [(.agg #[(Sl Cd Cc.1 Ce), (Sl Cf Cc.2 Cg)]), (I Cq)] [Ch.ro 0 (Sl Cd Cc.1 Ce) Cc.1, Ch.ro 0 (Sl Cf Cc.2 Cg) Cc.2] (fun n0 v L => v = (I r) ∧ L = []) := by
 refine cal2 (n := 25) Try.func52 rfl rfl rfl rfl ?_
 intro S0 σ0 n0 hn0 H
 unfold M.spec_upTo at h
 refine c_seq (rg (st_ex (ex_box (cs := [(Sl Cd Cc.1 Ce), (Sl Cf Cc.2 Cg)]) H hn0 rfl rfl) wn ?_))
 rintro _ σ2 ⟨b1, rfl, H, -⟩
 refine sa (I 0) rfl (w_end (q_then (c_seq (rg (sa (I 0) rfl (w_end (q_then (c_seq (c_seq (rg (sa (I 0) rfl ?_)))))))))))
 refine w_end (q_then ?_)
 obtain ⟨o3, hj, h'⟩ := bind_some h
 clear h
 refine c_cut (fun e a w => e = .normal ∧ ∃ (ρ : Nat → Value) (σ : St), a = fr 25 (updL ρ [(5, (I o3))]) ∧ w = σ.w ∧ Hp S0 σ0 σ []) ?_ ?_
 ·clear h'
  rename _ = some o3 => h
  refine c_blk (wp_loopM _ h (fun s4 a w => ∃ (ρ : Nat → Value) (σ : St), a = fr 25 (updL ρ [(1, (I Cq)), (2, (pt b1 0)), (5, (I s4.1)), (6, (I s4.2))]) ∧ w = σ.w ∧ Hp S0 σ0 σ [Ch.ro 0 (Sl Cd Cc.1 Ce) Cc.1, Ch.ro 0 (Sl Cf Cc.2 Cg) Cc.2, Ch.bx n0 b1 0 [(Sl Cd Cc.1 Ce), (Sl Cf Cc.2 Cg)] [] []]) ⟨_, σ2, fr_join ⟨rfl, rfl, rfl, rfl, trivial⟩, rfl, H.sel' [1, 2, 0] rfl rfl⟩ ?_)
  clear h H
  rintro s4 a w o ⟨ρ, σ5, rfl, rfl, H⟩ h hres
  refine c_seq (c_seq (rg (sm (I s4.2) rfl (st (v := (pt b1 1)) (rv_fieldAddr (off := 1) (ft := 24) Try.underlying26 rfl ti24 rfl rfl) ?_))))
  have hc6 := H.cell (u := (Sl Cf Cc.2 Cg)) (o' := 1) 2 1 rfl rfl rfl
  refine st (v := (Sl Cf Cc.2 Cg)) (rv_load1 Try.underlying24 rfl rfl hc6) (st (v := (I (Cc.2.length : Int))) (rv_len Try.underlying24 rfl) (st (v := (B (decide (s4.2 < (Cc.2.length : Int))))) (rv_lss (a := s4.2) (b := (Cc.2.length : Int)) rfl rfl) (w_end (q_then ?_))))
  refine cd_cond (decide (s4.2 < (Cc.2.length : Int))) rfl (fun hb7 => ?_) (fun hb7 => ?_)
  ·replace h := bif_t hb7 h
   refine c_skip (q_then (c_seq (c_blk (rg (sm (I s4.1) rfl (st (v := (pt b1 1)) (rv_fieldAddr (off := 1) (ft := 24) Try.underlying26 rfl ti24 rfl rfl) ?_))))))
   have hc8 := H.cell (u := (Sl Cf Cc.2 Cg)) (o' := 1) 2 1 rfl rfl rfl
   refine st (v := (Sl Cf Cc.2 Cg)) (rv_load1 Try.underlying24 rfl rfl hc8) (sm (I s4.2) rfl ?_)
   revert h; refine br fun x9 hx10 h => ?_
   obtain ⟨b12, o13, hi11, -⟩ := (H.ro 1 rfl).ix hx10
   refine st (v := (pt b12 o13)) (rv_ix Try.underlying24 ti3 rfl rfl hi11) ?_
   have hc14 := ((H.ro 1 rfl).at hx10 hi11).int
   refine st (v := (I x9)) (rv_load1 Try.underlying3 rfl rfl hc14) (sm (I Cq) rfl (st (v := (B (decide (x9 ≤ Cq)))) (rv_leq (a := x9) (b := Cq) rfl rfl) ?_))
   revert h; refine br fun r15 hx16 h => ?_
   have hc17 := c_spec_toInt hx16
   refine st_call (cx_call hc17 (ent_f hc17.fn rfl) hn0 (H.sel' [0, 1, 2] rfl rfl : Hp S0 σ0 _ ([] ++ _))) wn ?_
   rintro _ σ18 ⟨_, ⟨rfl, rfl⟩, H, -⟩
   replace H : Hp _ _ _ [_, _, _] := H
   refine st (v := (I (w64 (s4.1 + r15)))) (rv_add (a := s4.1) (b := r15) rfl rfl) (sa (I (w64 (s4.1 + r15))) rfl (w_end (q_blk (q_then (rg (sm (I s4.2) rfl (st (v := (I (w64 (s4.2 + 1)))) (rv_add (a := s4.2) (b := 1) rfl rfl) (sa (I (w64 (s4.2 + 1))) rfl (w_end (q_then ?_))))))))))
   obtain rfl := sj h
   exact ⟨_, rfl, _, σ18, fr_join ⟨rfl, rfl, rfl, rfl, trivial⟩, rfl, H.sel' [0, 1, 2] rfl rfl⟩
  ·replace h := bif_f hb7 h
   refine c_exit (q_then_x (q_then_x (q_blk_hit ?_)))
   obtain rfl := sj h
   obtain rfl := hres _ rfl
   exact ⟨rfl, _, σ5, fr_join ⟨rfl, trivial⟩, rfl, H.sel' [] rfl rfl⟩
 ·clear hj
  have h := h'
  clear h' H
  rintro e a w ⟨rfl, ρ, σ19, rfl, rfl, H⟩
  refine q_then (c_seq (rg (sm (I o3) rfl (sa (I o3) rfl (w_end (q_then (c_ret ?_)))))))
  obtain rfl := sj h
  exact fin_ret (v := (I o3)) (results_ok Try.results52 (res_tmp (v := (I o3)) rfl res_nil) rfl) ⟨rfl, rfl⟩ (H.sel' [] rfl rfl)

theorem c_spec_StoreAt {Cc : (List (Int × (Int × (List Int) × Int))) × (List Int)} {Cq : Int} {Cd : Option Addr} {Ce : Nat} {Cf : Option Addr} {Cg : Nat} {r : (List (Int × (List Int) × Int))} (h : M.spec_StoreAt Cc Cq = some r) :
    Cal2 Try.prog 22 [(.agg #[(Sl Cd Cc.1 Ce), (Sl Cf Cc.2 Cg)]), (I Cq)] [Ch.ro 0 (Sl Cd Cc.1 Ce) Cc.1, Ch.ro 0 (Sl Cf Cc.2 Cg) Cc.2] (fun n0 v L => ∃ (az1 : Option Addr), ∃ (cz2 : Nat), v = (Sl az1 r cz2) ∧ L = [Ch.own n0 n0 (Sl az1 r cz2) r]) := by
 refine cal2 (n := 27) Try.func22 rfl rfl rfl rfl ?_
 intro S0 σ0 n0 hn0 H
 unfold M.spec_StoreAt at h
 refine c_seq (rg (st_ex (ex_box (cs := [(Sl Cd Cc.1 Ce), (Sl Cf Cc.2 Cg)]) H hn0 rfl rfl) wn ?_))
 rintro _ σ2 ⟨b1, rfl, H, -⟩
 refine sa (.slice none 0 0) rfl (w_end (q_then (c_seq (c_seq ?_))))
 obtain ⟨o3, hj, h'⟩ := bind_some h
 clear h
 refine c_cut (fun e a w => e = .normal ∧ ∃ (ρ : Nat → Value) (σ : St), a = fr 27 (updL ρ [(1, (I Cq)), (2, (pt b1 0)), (14, (B o3))]) ∧ w = σ.w ∧ Hp S0 σ0 σ [Ch.ro 0 (Sl Cd Cc.1 Ce) Cc.1, Ch.ro 0 (Sl Cf Cc.2 Cg) Cc.2, Ch.bx n0 b1 0 [(Sl Cd Cc.1 Ce), (Sl Cf Cc.2 Cg)] [] []]) ?_ ?_
 ·clear h'
  rename _ = some o3 => h
  refine rg ?_
  have hc4 := H.cells 0 rfl
  refine st (v := (.agg #[(Sl Cd Cc.1 Ce), (Sl Cf Cc.2 Cg)])) (rv_load (cs := [(Sl Cd Cc.1 Ce), (Sl Cf Cc.2 Cg)]) Try.underlying26 rfl ti26 rfl rfl hc4) ?_
  revert h; refine br fun r5 hx6 h => ?_
  have hc7 := c_spec_validHistory (Cd := Cd) (Ce := Ce) (Cf := Cf) (Cg := Cg) hx6
  refine st_call (cx_call hc7 (ent_f hc7.fn rfl) hn0 (H.sel' [1, 2, 0, 1, 2] rfl rfl : Hp S0 σ0 _ ([_, _] ++ _))) wn ?_
  rintro _ σ8 ⟨_, ⟨rfl, rfl⟩, H, -⟩
  replace H : Hp _ _ _ [_, _, _] := H
  refine st (v := (B (!r5))) (rv_not rfl) (sm (B (!r5)) rfl ?_)
  rcases Bool.eq_false_or_eq_true (!r5) with hb9 | hb9
  ·replace h := bif_t hb9 h
   refine st_skip (congrArg some hb9) (st_skip (congrArg some hb9) (st_skip (congrArg some hb9) (st (v := (B true)) (rv_pick_t (congrArg B hb9) rfl) (w_end ?_))))
   obtain rfl := sj h
   exact ⟨rfl, _, σ8, fr_join ⟨rfl, rfl, rfl, trivial⟩, rfl, H.sel' [1, 2, 0] rfl rfl⟩
  ·replace h := bif_f hb9 h
   refine st_g (v := (I Cq)) (congrArg some hb9) (rv_move rfl) ?_
   revert h; refine br fun r10 hx11 h => ?_
   have hc12 := c_spec_inRange hx11
   refine st_call (cx_call hc12 (ent_f hc12.fn rfl) hn0 (H.sel' [0, 1, 2] rfl rfl : Hp S0 σ0 _ ([] ++ _))) (wanted_yes rfl (by exact (congrArg some hb9))) ?_
   rintro _ σ13 ⟨_, ⟨rfl, rfl⟩, H, -⟩
   replace H : Hp _ _ _ [_, _, _] := H
   refine st_g (v := (B (!r10))) (congrArg some hb9) (rv_not rfl) (st (v := (B (!r10))) (rv_pick_f (congrArg B hb9) rfl) (w_end ?_))
   obtain rfl := sj h
   exact ⟨rfl, _, σ13, fr_join ⟨rfl, rfl, rfl, trivial⟩, rfl, H.sel' [1, 2, 0] rfl rfl⟩
 ·clear hj
  have h := h'
  clear h' H
  rintro e a w ⟨rfl, ρ, σ14, rfl, rfl, H⟩
  refine q_then ?_
  refine cd_cond o3 rfl (fun hb15 => ?_) (fun hb15 => ?_)
  ·replace h := bif_t hb15 h
   refine c_seq (rg (sa (.slice none 0 0) rfl (w_end (q_then (c_ret (q_then_r ?_))))))
   replace H := H.nilOwn (Int × (List Int) × Int) n0 n0
   obtain rfl := sj h
   exact fin_ret (v := (.slice none 0 0)) (results_ok Try.results22 (res_tmp (v := (.slice none 0 0)) rfl res_nil) rfl) ⟨none, 0, rfl, rfl⟩ (H.sel' [0] rfl rfl)
  ·replace h := bif_f hb15 h
   refine c_skip (q_then (c_seq ?_))
   have hc17 := H.cell (u := (Sl Cd Cc.1 Ce)) (o' := 0) 2 0 rfl rfl rfl
   have hc18 := H.cells 2 rfl
   revert h; refine br fun r19 hx20 h => ?_
   have hc21 := c_spec_upTo (Cd := Cd) (Ce := Ce) (Cf := Cf) (Cg := Cg) hx20
   revert h; refine br fun xs22 hx23 h => ?_
   obtain ⟨a24, c25, hs26, hR27⟩ := (H.ro 0 rfl).slice hx23
   replace H := H.add (d := Ch.ro 0 (Sl a24 xs22 c25) xs22) hR27 (fun _ h => h)
   clear hR27
   revert h; refine br fun r28 hx29 h => ?_
   have hc30 := fun (b16 : Nat) => c_spec_ReplayLog (Ap := (some ⟨b16, 0, none⟩)) (Aq := 0) (Bw := a24) (By := c25) hx29
   have Hs := H
   refine rg2 (σ := σ14) (Nm := (Nat) × (Option Addr) × (Nat)) 12 [0, 5, 7] [[false, false, false], [true, false, false], [false, true, false], [true, true, false], [true, true, true]] [[(0, 1), (2, 3)], [(0, 0), (1, 1), (2, 2), (3, 3)], [(0, 0), (1, 1), (2, 2), (3, 3)], [(0, 0), (1, 1)], [(0, 0), (1, 1)], [(0, 2), (1, 3)], [(2, 2), (3, 3)], [(3, 4)], [(4, 4)], [(4, 4)], [(4, 4)], [(4, 4)]] 4 [fun ((b16, a31, c32) : (Nat) × (Option Addr) × (Nat)) => fun σm => Hp S0 σ0 σm [Ch.ro 0 (Sl a24 xs22 c25) xs22, Ch.ro 0 (Sl Cd Cc.1 Ce) Cc.1, Ch.ro 0 (Sl Cf Cc.2 Cg) Cc.2, Ch.bx n0 b1 0 [(Sl Cd Cc.1 Ce), (Sl Cf Cc.2 Cg)] [] []] ∧ Md (cov []) σ14 σm, fun ((b16, a31, c32) : (Nat) × (Option Addr) × (Nat)) => fun σm => Hp S0 σ0 σm [Ch.ro 0 (Sl (some ⟨b16, 0, none⟩) ([] : List (Int × (List Int) × Int)) 0) ([] : List (Int × (List Int) × Int)), Ch.ro 0 (Sl a24 xs22 c25) xs22, Ch.ro 0 (Sl Cd Cc.1 Ce) Cc.1, Ch.ro 0 (Sl Cf Cc.2 Cg) Cc.2, Ch.bx n0 b1 0 [(Sl Cd Cc.1 Ce), (Sl Cf Cc.2 Cg)] [] []] ∧ Md (fun i => (cov []) i ∨ (fun i => (cov []) i ∨ (fun b => blk (Sl (some ⟨b16, 0, none⟩) ([] : List (Int × (List Int) × Int)) 0) = some b) i) i) σ14 σm, fun ((b16, a31, c32) : (Nat) × (Option Addr) × (Nat)) => fun σm => Hp S0 σ0 σm [Ch.ro 0 (Sl a24 xs22 c25) xs22, Ch.ro 0 (Sl Cd Cc.1 Ce) Cc.1, Ch.ro 0 (Sl Cf Cc.2 Cg) Cc.2, Ch.bx n0 b1 0 [(Sl Cd Cc.1 Ce), (Sl Cf Cc.2 Cg)] [] []] ∧ Md (cov []) σ14 σm, fun ((b16, a31, c32) : (Nat) × (Option Addr) × (Nat)) => fun σm => Hp S0 σ0 σm [Ch.ro 0 (Sl (some ⟨b16, 0, none⟩) ([] : List (Int × (List Int) × Int)) 0) ([] : List (Int × (List Int) × Int)), Ch.ro 0 (Sl a24 xs22 c25) xs22, Ch.ro 0 (Sl Cd Cc.1 Ce) Cc.1, Ch.ro 0 (Sl Cf Cc.2 Cg) Cc.2, Ch.bx n0 b1 0 [(Sl Cd Cc.1 Ce), (Sl Cf Cc.2 Cg)] [] []] ∧ Md (fun i => (cov []) i ∨ (fun i => (cov []) i ∨ (fun b => blk (Sl (some ⟨b16, 0, none⟩) ([] : List (Int × (List Int) × Int)) 0) = some b) i) i) σ14 σm, fun ((b16, a31, c32) : (Nat) × (Option Addr) × (Nat)) => fun σm => Hp S0 σ0 σm [Ch.own n0 n0 (Sl a31 r28.1 c32) r28.1, Ch.ro 0 (Sl (some ⟨b16, 0, none⟩) ([] : List (Int × (List Int) × Int)) 0) ([] : List (Int × (List Int) × Int)), Ch.ro 0 (Sl a24 xs22 c25) xs22, Ch.ro 0 (Sl Cd Cc.1 Ce) Cc.1, Ch.ro 0 (Sl Cf Cc.2 Cg) Cc.2, Ch.bx n0 b1 0 [(Sl Cd Cc.1 Ce), (Sl Cf Cc.2 Cg)] [] []] ∧ Md (fun i => (cov []) i ∨ (fun i => (cov []) i ∨ (fun b => blk (Sl (some ⟨b16, 0, none⟩) ([] : List (Int × (List Int) × Int)) 0) = some b) i) i) σ14 σm] [fun ((b16, a31, c32) : (Nat) × (Option Addr) × (Nat)) => (Sl (some ⟨b16, 0, none⟩) ([] : List (Int × (List Int) × Int)) 0), fun ((b16, a31, c32) : (Nat) × (Option Addr) × (Nat)) => (pt b1 0), fun ((b16, a31, c32) : (Nat) × (Option Addr) × (Nat)) => (Sl Cd Cc.1 Ce), fun ((b16, a31, c32) : (Nat) × (Option Addr) × (Nat)) => (.agg #[(Sl Cd Cc.1 Ce), (Sl Cf Cc.2 Cg)]), fun ((b16, a31, c32) : (Nat) × (Option Addr) × (Nat)) => (I Cq), fun ((b16, a31, c32) : (Nat) × (Option Addr) × (Nat)) => (I r19), fun ((b16, a31, c32) : (Nat) × (Option Addr) × (Nat)) => (Sl a24 xs22 c25), fun ((b16, a31, c32) : (Nat) × (Option Addr) × (Nat)) => (.tuple #[(Sl a31 r28.1 c32), (I r28.2)]), fun ((b16, a31, c32) : (Nat) × (Option Addr) × (Nat)) => (.tuple #[(Sl a31 r28.1 c32), (I r28.2)]), fun ((b16, a31, c32) : (Nat) × (Option Addr) × (Nat)) => (Sl a31 r28.1 c32), fun ((b16, a31, c32) : (Nat) × (Option Addr) × (Nat)) => (I r28.2), fun ((b16, a31, c32) : (Nat) × (Option Addr) × (Nat)) => (Sl a31 r28.1 c32)] (0, none, 0) (by kernel_rfl) (by kernel_rfl) ?_ ?_ ?_
   ·intro σm m0
    exact ⟨H.grow (m0.mono fun _ h => h.elim), m0⟩
   ·refine all_cons (by
      refine ⟨?_, ?_⟩
      ·rintro ⟨b16, a31, c32⟩ ρ σm hJ hoff hdep
       obtain ⟨H, m⟩ := id hJ
       refine dp_ex wn (ex_buildSlice (el := 0) (xs := ([] : List (Int × (List Int) × Int))) (ps := []) (cs := []) H hn0 Try.underlying33 ti41 rfl rfl (by kernel_rfl) (.nil) rfl) ?_
       rintro _ σq ⟨b16x, rfl, H2, m2⟩
       obtain ⟨σr0, hwr0, H2, mr0⟩ := H2.pub 0 rfl (Nat.zero_le _)
       exact ⟨_, (b16x, a31, c32), hwr0, rfl, ⟨H2.sel' [0, 1, 2, 3, 4] rfl rfl, m.comp (m2.comp mr0)⟩, stab [1, 2, 3, 4, 5, 6] (by kernel_rfl) ⟨rfl, rfl, rfl, rfl, rfl, rfl, trivial⟩⟩
      refine ⟨?_, ?_⟩
      ·rintro ⟨b16, a31, c32⟩ ρ σm hJ hoff hdep
       obtain ⟨H, m⟩ := id hJ
       refine dp_ex wn (ex_buildSlice (el := 0) (xs := ([] : List (Int × (List Int) × Int))) (ps := []) (cs := []) H hn0 Try.underlying33 ti41 rfl rfl (by kernel_rfl) (.nil) rfl) ?_
       rintro _ σq ⟨b16x, rfl, H2, m2⟩
       obtain ⟨σr0, hwr0, H2, mr0⟩ := H2.pub 0 rfl (Nat.zero_le _)
       exact ⟨_, (b16x, a31, c32), hwr0, rfl, ⟨H2.sel' [0, 1, 2, 3, 4] rfl rfl, m.comp (m2.comp mr0)⟩, stab [1, 2, 3, 4, 5, 6] (by kernel_rfl) ⟨rfl, rfl, rfl, rfl, rfl, rfl, trivial⟩⟩
      trivial) ?_
    refine ac rfl (by
      intro k; rintro ⟨b16, a31, c32⟩ ρ σm hJ hoff hdep
      have e2 := look_off (N := 27) (hoff 2 rfl) rfl
      exact dp_v (v := (pt b1 0)) wn (rv_fieldAddr (off := 0) (ft := 23) Try.underlying26 rfl ti23 rfl e2) rfl hJ) ?_
    refine all_cons (by
      refine ⟨?_, ?_⟩
      ·rintro ⟨b16, a31, c32⟩ ρ σm hJ hoff hdep
       have e17 := hdep 1 rfl rfl 17 rfl
       obtain ⟨H, m⟩ := id hJ
       have hc17 := H.cell (u := (Sl Cd Cc.1 Ce)) (o' := 0) 3 0 rfl rfl rfl
       exact dp_v (v := (Sl Cd Cc.1 Ce)) wn (rv_load1 Try.underlying23 rfl e17 hc17) rfl hJ
      refine ⟨?_, ?_⟩
      ·rintro ⟨b16, a31, c32⟩ ρ σm hJ hoff hdep
       have e17 := hdep 1 rfl rfl 17 rfl
       obtain ⟨H, m⟩ := id hJ
       have hc17 := H.cell (u := (Sl Cd Cc.1 Ce)) (o' := 0) 4 0 rfl rfl rfl
       exact dp_v (v := (Sl Cd Cc.1 Ce)) wn (rv_load1 Try.underlying23 rfl e17 hc17) rfl hJ
      refine ⟨?_, ?_⟩
      ·rintro ⟨b16, a31, c32⟩ ρ σm hJ hoff hdep
       have e17 := hdep 1 rfl rfl 17 rfl
       obtain ⟨H, m⟩ := id hJ
       have hc17 := H.cell (u := (Sl Cd Cc.1 Ce)) (o' := 0) 3 0 rfl rfl rfl
       exact dp_v (v := (Sl Cd Cc.1 Ce)) wn (rv_load1 Try.underlying23 rfl e17 hc17) rfl hJ
      refine ⟨?_, ?_⟩
      ·rintro ⟨b16, a31, c32⟩ ρ σm hJ hoff hdep
       have e17 := hdep 1 rfl rfl 17 rfl
       obtain ⟨H, m⟩ := id hJ
       have hc17 := H.cell (u := (Sl Cd Cc.1 Ce)) (o' := 0) 4 0 rfl rfl rfl
       exact dp_v (v := (Sl Cd Cc.1 Ce)) wn (rv_load1 Try.underlying23 rfl e17 hc17) rfl hJ
      trivial) ?_
    refine all_cons (by
      refine ⟨?_, ?_⟩
      ·rintro ⟨b16, a31, c32⟩ ρ σm hJ hoff hdep
       have e2 := look_off (N := 27) (hoff 2 rfl) rfl
       obtain ⟨H, m⟩ := id hJ
       have hc18 := H.cells 3 rfl
       exact dp_v (v := (.agg #[(Sl Cd Cc.1 Ce), (Sl Cf Cc.2 Cg)])) wn (rv_load (cs := [(Sl Cd Cc.1 Ce), (Sl Cf Cc.2 Cg)]) Try.underlying26 rfl ti26 e2 rfl hc18) rfl hJ
      refine ⟨?_, ?_⟩
      ·rintro ⟨b16, a31, c32⟩ ρ σm hJ hoff hdep
       have e2 := look_off (N := 27) (hoff 2 rfl) rfl
       obtain ⟨H, m⟩ := id hJ
       have hc18 := H.cells 4 rfl
       exact dp_v (v := (.agg #[(Sl Cd Cc.1 Ce), (Sl Cf Cc.2 Cg)])) wn (rv_load (cs := [(Sl Cd Cc.1 Ce), (Sl Cf Cc.2 Cg)]) Try.underlying26 rfl ti26 e2 rfl hc18) rfl hJ
      trivial) ?_
    refine ac rfl (by
      intro k; rintro ⟨b16, a31, c32⟩ ρ σm hJ hoff hdep
      have e1 := look_off (N := 27) (hoff 1 rfl) rfl
      exact dp_v (v := (I Cq)) wn (rv_move e1) rfl hJ) ?_
    refine all_cons (by
      refine ⟨?_, ?_⟩
      ·rintro ⟨b16, a31, c32⟩ ρ σm hJ hoff hdep
       have e19 : look 27 ρ 19 = (.agg #[(Sl Cd Cc.1 Ce), (Sl Cf Cc.2 Cg)]) := hdep 3 rfl rfl 19 rfl
       have e20 : look 27 ρ 20 = (I Cq) := hdep 4 rfl rfl 20 rfl
       obtain ⟨H, m⟩ := id hJ
       refine dp_cx wn (cx_call hc21 (ent_f hc21.fn (by show [look 27 ρ 19, look 27 ρ 20] = _; rw [e19, e20])) hn0 (H.sel' [1, 2, 0, 1, 2, 3] rfl rfl : Hp S0 σ0 _ ([_, _] ++ _))) ?_
       rintro _ σq ⟨_, ⟨rfl, rfl⟩, H2, m2⟩
       exact ⟨_, (b16, a31, c32), rfl, rfl, ⟨H2.sel' [0, 1, 2, 3] rfl rfl, m.comp0 (m2.mono (fun i h => by simp [cov, Ch.ro] at h))⟩, stab [0, 1, 2, 3, 4] (by kernel_rfl) ⟨rfl, rfl, rfl, rfl, rfl, trivial⟩⟩
      refine ⟨?_, ?_⟩
      ·rintro ⟨b16, a31, c32⟩ ρ σm hJ hoff hdep
       have e19 : look 27 ρ 19 = (.agg #[(Sl Cd Cc.1 Ce), (Sl Cf Cc.2 Cg)]) := hdep 3 rfl rfl 19 rfl
       have e20 : look 27 ρ 20 = (I Cq) := hdep 4 rfl rfl 20 rfl
       obtain ⟨H, m⟩ := id hJ
       refine dp_cx wn (cx_call hc21 (ent_f hc21.fn (by show [look 27 ρ 19, look 27 ρ 20] = _; rw [e19, e20])) hn0 (H.sel' [2, 3, 0, 1, 2, 3, 4] rfl rfl : Hp S0 σ0 _ ([_, _] ++ _))) ?_
       rintro _ σq ⟨_, ⟨rfl, rfl⟩, H2, m2⟩
       exact ⟨_, (b16, a31, c32), rfl, rfl, ⟨H2.sel' [0, 1, 2, 3, 4] rfl rfl, m.comp0 (m2.mono (fun i h => by simp [cov, Ch.ro] at h))⟩, stab [0, 1, 2, 3, 4] (by kernel_rfl) ⟨rfl, rfl, rfl, rfl, rfl, trivial⟩⟩
      trivial) ?_
    refine ac rfl (by
      intro k; rintro ⟨b16, a31, c32⟩ ρ σm hJ hoff hdep
      have e18 := hdep 2 rfl rfl 18 rfl
      have e21 := hdep 5 rfl rfl 21 rfl
      exact dp_v (v := (Sl a24 xs22 c25)) wn (rv_slice_h Try.underlying23 ti43 hs26 e18 e21) rfl hJ) ?_
    refine all_cons (by
      refine ⟨?_, ?_⟩
      ·rintro ⟨b16, a31, c32⟩ ρ σm hJ hoff hdep
       have e16 : look 27 ρ 16 = (Sl (some ⟨b16, 0, none⟩) ([] : List (Int × (List Int) × Int)) 0) := hdep 0 rfl rfl 16 rfl
       have e22 : look 27 ρ 22 = (Sl a24 xs22 c25) := hdep 6 rfl rfl 22 rfl
       obtain ⟨H, m⟩ := id hJ
       refine dp_cx wn (cx_call (hc30 b16) (ent_f (hc30 b16).fn (by show [look 27 ρ 16, look 27 ρ 22] = _; rw [e16, e22])) hn0 (H.sel' [0, 1, 0, 1, 2, 3, 4] rfl rfl : Hp S0 σ0 _ ([_, _] ++ _))) ?_
       rintro _ σq ⟨_, ⟨a31x, c32x, rfl, rfl⟩, H2, m2⟩
       exact ⟨_, (b16, a31x, c32x), rfl, rfl, ⟨H2.sel' [0, 1, 2, 3, 4, 5] rfl rfl, m.comp0 (m2.mono (fun i h => by simp [cov, Ch.ro] at h))⟩, stab [0, 1, 2, 3, 4, 5, 6] (by kernel_rfl) ⟨rfl, rfl, rfl, rfl, rfl, rfl, rfl, trivial⟩⟩
      trivial) ?_
    refine ac rfl (by
      intro k; rintro ⟨b16, a31, c32⟩ ρ σm hJ hoff hdep
      have e23 := hdep 7 rfl rfl 23 rfl
      exact dp_v (v := (.tuple #[(Sl a31 r28.1 c32), (I r28.2)])) wn (rv_move e23) rfl hJ) ?_
    refine ac rfl (by
      intro k; rintro ⟨b16, a31, c32⟩ ρ σm hJ hoff hdep
      have e15 := hdep 8 rfl rfl 15 rfl
      exact dp_v (v := (Sl a31 r28.1 c32)) wn (rv_extract e15 rfl) rfl hJ) ?_
    refine ac rfl (by
      intro k; rintro ⟨b16, a31, c32⟩ ρ σm hJ hoff hdep
      have e15 := hdep 8 rfl rfl 15 rfl
      exact dp_v (v := (I r28.2)) wn (rv_extract e15 rfl) rfl hJ) ?_
    refine ac rfl (by
      intro k; rintro ⟨b16, a31, c32⟩ ρ σm hJ hoff hdep
      have e24 := hdep 9 rfl rfl 24 rfl
      exact dp_v (v := (Sl a31 r28.1 c32)) wn (rv_assign e24) rfl hJ) ?_
    exact all_nil
   ·rintro ⟨b16, a31, c32⟩ ρ σ33 hJ hoff hrel
    have e5 := hrel 11 rfl 5 rfl
    have e25 := hrel 10 rfl 25 rfl
    obtain ⟨H, -⟩ := (show Hp S0 σ0 σ33 [Ch.own n0 n0 (Sl a31 r28.1 c32) r28.1, Ch.ro 0 (Sl (some ⟨b16, 0, none⟩) ([] : List (Int × (List Int) × Int)) 0) ([] : List (Int × (List Int) × Int)), Ch.ro 0 (Sl a24 xs22 c25) xs22, Ch.ro 0 (Sl Cd Cc.1 Ce) Cc.1, Ch.ro 0 (Sl Cf Cc.2 Cg) Cc.2, Ch.bx n0 b1 0 [(Sl Cd Cc.1 Ce), (Sl Cf Cc.2 Cg)] [] []] ∧ Md (fun i => (cov []) i ∨ (fun i => (cov []) i ∨ (fun b => blk (Sl (some ⟨b16, 0, none⟩) ([] : List (Int × (List Int) × Int)) 0) = some b) i) i) σ14 σ33 from hJ)
    clear hJ Hs
    rw [fr_lookL (L := [(5, (Sl a31 r28.1 c32)), (25, (I r28.2))]) ⟨e5, e25, trivial⟩]
    clear hoff hrel e5 e25
    refine sa (I r28.2) rfl (w_end (q_then (c_seq (rg (sm (Sl a31 r28.1 c32) rfl (sa (Sl a31 r28.1 c32) rfl (w_end (q_then (c_ret ?_)))))))))
    obtain rfl := sj h
    exact fin_ret (v := (Sl a31 r28.1 c32)) (results_ok Try.results22 (res_tmp (v := (Sl a31 r28.1 c32)) rfl res_nil) rfl) ⟨a31, c32, rfl, rfl⟩ (H.sel' [0] rfl rfl)

theorem c_spec_size {Dj : Int}  {r : Int} (h : M.spec_size Dj = some r) :
    Cal2 Try.prog 113 [(I Dj)] [] (fun n0 v L => v = (I r) ∧ L = []) := by
 refine cal2 (n := 7) Try.func113 rfl rfl rfl rfl ?_
 intro S0 σ0 n0 hn0 H
 unfold M.spec_size at h
 refine c_seq (rg (sa (I 0) rfl (w_end (q_then (c_seq (rg (sm (I Dj) rfl (sm (I Dj) rfl (st (v := (I (w64 (0 - Dj)))) (rv_neg (a := Dj) rfl) (st (v := (I (max Dj (w64 (0 - Dj))))) (rv_max rfl rfl) (sa (I (max Dj (w64 (0 - Dj)))) rfl ?_)))))))))))
 refine w_end (q_then (c_ret ?_))
 obtain rfl := sj h
 exact fin_ret (v := (I (max Dj (w64 (0 - Dj))))) (results_ok Try.results113 (res_tmp (v := (I (max Dj (w64 (0 - Dj))))) rfl res_nil) rfl) ⟨rfl, rfl⟩ (H.sel' [] rfl rfl)

theorem c_spec_dist {Es : Int} {Eo : List Int} {Ep : List Int} {Et : Option Addr} {Eu : Nat} {Ev : Option Addr} {Ew : Nat} {r : Int} (h : M.spec_dist Es Eo Ep = some r) :
    Cal2 Try.prog 98 [(I Es), (Sl Et Eo Eu), (Sl Ev Ep Ew)] [Ch.ro 0 (Sl Et Eo Eu) Eo, Ch.ro 0 (Sl Ev Ep Ew) Ep] (fun n0 v L => v = (I r) ∧ L = []) := by
 refine cal2 (n := 50) Try.func98 rfl rfl rfl rfl ?_
 intro S0 σ0 n0 hn0 H
 unfold M.spec_dist at h
 refine c_seq (rg (sa (I 0) rfl (w_end (q_then (c_seq (rg (sa (I 0) rfl (w_end (q_then (c_seq (c_seq ?_)))))))))))
 refine rg (sa (I 0) rfl (w_end (q_then ?_)))
 obtain ⟨o1, hj, h'⟩ := bind_some h
 clear h
 refine c_cut (fun e a w => e = .normal ∧ ∃ (ρ : Nat → Value) (σ : St), a = fr 50 (updL ρ [(7, (I o1))]) ∧ w = σ.w ∧ Hp S0 σ0 σ []) ?_ ?_
 ·clear h'
  rename _ = some o1 => h
  refine c_blk (wp_loopM _ h (fun s2 a w => ∃ (ρ : Nat → Value) (σ : St), a = fr 50 (updL ρ [(0, (I Es)), (1, (Sl Et Eo Eu)), (2, (Sl Ev Ep Ew)), (7, (I s2.1)), (8, (I s2.2))]) ∧ w = σ.w ∧ Hp S0 σ0 σ [Ch.ro 0 (Sl Et Eo Eu) Eo, Ch.ro 0 (Sl Ev Ep Ew) Ep]) ⟨_, σ0, fr_join ⟨rfl, rfl, rfl, rfl, rfl, trivial⟩, rfl, H.sel' [0, 1] rfl rfl⟩ ?_)
  clear h H
  rintro s2 a w o ⟨ρ, σ3, rfl, rfl, H⟩ h hres
  refine c_seq (c_seq (rg (sm (I s2.2) rfl (sm (Sl Et Eo Eu) rfl (st (v := (I (Eo.length : Int))) (rv_len Try.underlying24 rfl) (st (v := (B (decide (s2.2 < (Eo.length : Int))))) (rv_lss (a := s2.2) (b := (Eo.length : Int)) rfl rfl) (w_end (q_then ?_))))))))
  refine cd_cond (decide (s2.2 < (Eo.length : Int))) rfl (fun hb4 => ?_) (fun hb4 => ?_)
  ·replace h := bif_t hb4 h
   refine c_skip (q_then (c_seq ?_))
   obtain ⟨o5, hj, h'⟩ := bind_some h
   clear h
   refine c_cut (fun e a w => e = .normal ∧ ∃ (ρ : Nat → Value) (σ : St), a = fr 50 (updL ρ [(0, (I Es)), (1, (Sl Et Eo Eu)), (2, (Sl Ev Ep Ew)), (7, (I o5)), (8, (I s2.2))]) ∧ w = σ.w ∧ Hp S0 σ0 σ [Ch.ro 0 (Sl Et Eo Eu) Eo, Ch.ro 0 (Sl Ev Ep Ew) Ep]) ?_ ?_
   ·clear h'
    rename _ = some o5 => h
    refine c_blk (c_seq ?_)
    refine rgP (σ := σ3) 8 (by kernel_rfl) (by kernel_rfl) (by kernel_rfl) ?_
    refine sq (v := (Sl Et Eo Eu)) (rv_move rfl) (sq (v := (I s2.2)) (rv_move rfl) ?_)
    revert h; refine br fun x6 hx7 h => ?_
    obtain ⟨b9, o10, hi8, -⟩ := (H.ro 0 rfl).ix hx7
    refine sq (v := (pt b9 o10)) (rv_ix Try.underlying24 ti3 rfl rfl hi8) ?_
    have hc11 := ((H.ro 0 rfl).at hx7 hi8).int
    refine sq (v := (I x6)) (rv_load1 Try.underlying3 rfl rfl hc11) (sq (v := (Sl Ev Ep Ew)) (rv_move rfl) (sq (v := (I s2.2)) (rv_move rfl) ?_))
    revert h; refine br fun x12 hx13 h => ?_
    obtain ⟨b15, o16, hi14, -⟩ := (H.ro 1 rfl).ix hx13
    refine sq (v := (pt b15 o16)) (rv_ix Try.underlying24 ti3 rfl rfl hi14) ?_
    have hc17 := ((H.ro 1 rfl).at hx13 hi14).int
    refine sq (v := (I x12)) (rv_load1 Try.underlying3 rfl rfl hc17) (sq_end ?_)
    intro σ18 hm19
    replace H := H.grow (hm19.mono fun _ h => h); clear hm19
    refine st (v := (I (w64 (x6 - x12)))) (rv_sub (a := x6) (b := x12) rfl rfl) ?_
    revert h; refine br fun r20 hx21 h => ?_
    have hc22 := c_spec_size hx21
    refine st_call (cx_call hc22 (ent_f hc22.fn rfl) hn0 (H.sel' [0, 1] rfl rfl : Hp S0 σ0 _ ([] ++ _))) wn ?_
    rintro _ σ23 ⟨_, ⟨rfl, rfl⟩, H, -⟩
    replace H : Hp _ _ _ [_, _] := H
    refine sa (I r20) rfl (w_end (q_then (c_seq (rg (sm (I Es) rfl (w_end (q_then (c_blk (c_seq (rg (st (v := (B (Es == 1))) (rv_eql (a := Es) (b := 1) rfl rfl) ?_)))))))))))
    refine sa (B (Es == 1)) rfl (w_end (q_then ?_))
    refine cd_cond (Es == 1) rfl (fun hb24 => ?_) (fun hb24 => ?_)
    ·replace h := bif_t hb24 h
     refine rg (sm (I s2.1) rfl (sm (I r20) rfl (st (v := (I (w64 (s2.1 + r20)))) (rv_add (a := s2.1) (b := r20) rfl rfl) (sa (I (w64 (s2.1 + r20))) rfl (w_end (q_blk (q_blk ?_)))))))
     obtain rfl := sj h
     exact ⟨rfl, _, σ23, fr_join ⟨rfl, rfl, rfl, rfl, rfl, trivial⟩, rfl, H.sel' [0, 1] rfl rfl⟩
    ·replace h := bif_f hb24 h
     refine c_seq (rg (st (v := (B (Es == 2))) (rv_eql (a := Es) (b := 2) rfl rfl) (sa (B (Es == 2)) rfl (w_end (q_then ?_)))))
     refine cd_cond (Es == 2) rfl (fun hb25 => ?_) (fun hb25 => ?_)
     ·replace h := bif_t hb25 h
      refine rg (sm (I s2.1) rfl (sm (I r20) rfl (st (v := (I (max s2.1 r20))) (rv_max rfl rfl) (sa (I (max s2.1 r20)) rfl (w_end (q_blk (q_blk ?_)))))))
      obtain rfl := sj h
      exact ⟨rfl, _, σ23, fr_join ⟨rfl, rfl, rfl, rfl, rfl, trivial⟩, rfl, H.sel' [0, 1] rfl rfl⟩
     ·replace h := bif_f hb25 h
      refine c_seq (rg (st (v := (B (Es == 3))) (rv_eql (a := Es) (b := 3) rfl rfl) (sa (B (Es == 3)) rfl (w_end (q_then ?_)))))
      refine cd_cond (Es == 3) rfl (fun hb26 => ?_) (fun hb26 => ?_)
      ·replace h := bif_t hb26 h
       refine rg (sm (I s2.1) rfl (sm (I r20) rfl (sm (I r20) rfl (st (v := (I (w64 (r20 * r20)))) (rv_mul (a := r20) (b := r20) rfl rfl) (st (v := (I (w64 (s2.1 + (w64 (r20 * r20)))))) (rv_add (a := s2.1) (b := (w64 (r20 * r20))) rfl rfl) (sa (I (w64 (s2.1 + (w64 (r20 * r20))))) rfl (w_end (q_blk (q_blk ?_)))))))))
       obtain rfl := sj h
       exact ⟨rfl, _, σ23, fr_join ⟨rfl, rfl, rfl, rfl, rfl, trivial⟩, rfl, H.sel' [0, 1] rfl rfl⟩
      ·replace h := bif_f hb26 h
       refine rg (sm (I s2.1) rfl (sm (I r20) rfl (st (v := (B (decide (0 < r20)))) (rv_gtr (a := r20) (b := 0) rfl rfl) ?_)))
       revert h; refine br fun r27 hx28 h => ?_
       have hc29 := c_spec_toInt hx28
       refine st_call (cx_call hc29 (ent_f hc29.fn rfl) hn0 (H.sel' [0, 1] rfl rfl : Hp S0 σ0 _ ([] ++ _))) wn ?_
       rintro _ σ30 ⟨_, ⟨rfl, rfl⟩, H, -⟩
       replace H : Hp _ _ _ [_, _] := H
       refine st (v := (I (w64 (s2.1 + r27)))) (rv_add (a := s2.1) (b := r27) rfl rfl) (sa (I (w64 (s2.1 + r27))) rfl (w_end (q_blk (q_blk ?_))))
       obtain rfl := sj h
       exact ⟨rfl, _, σ30, fr_join ⟨rfl, rfl, rfl, rfl, rfl, trivial⟩, rfl, H.sel' [0, 1] rfl rfl⟩
   ·clear hj
    have h := h'
    clear h' H
    rintro e a w ⟨rfl, ρ, σ31, rfl, rfl, H⟩
    refine q_then (rg (sm (I s2.2) rfl (st (v := (I (w64 (s2.2 + 1)))) (rv_add (a := s2.2) (b := 1) rfl rfl) (sa (I (w64 (s2.2 + 1))) rfl (w_end (q_then ?_))))))
    obtain rfl := sj h
    exact ⟨_, rfl, _, σ31, fr_join ⟨rfl, rfl, rfl, rfl, rfl, trivial⟩, rfl, H.sel' [0, 1] rfl rfl⟩
  ·replace h := bif_f hb4 h
   refine c_exit (q_then_x (q_then_x (q_blk_hit ?_)))
   obtain rfl := sj h
   obtain rfl := hres _ rfl
   exact ⟨rfl, _, σ3, fr_join ⟨rfl, trivial⟩, rfl, H.sel' [] rfl rfl⟩
 ·clear hj
  have h := h'
  clear h' H
  rintro e a w ⟨rfl, ρ, σ32, rfl, rfl, H⟩
  refine q_then (c_seq (rg (sm (I o1) rfl (sa (I o1) rfl (w_end (q_then (c_ret ?_)))))))
  obtain rfl := sj h
  exact fin_ret (v := (I o1)) (results_ok Try.results98 (res_tmp (v := (I o1)) rfl res_nil) rfl) ⟨rfl, rfl⟩ (H.sel' [] rfl rfl)

theorem c_spec_sameItem {Cr : Int × (List Int) × Int} {Cs : Int × (List Int) × Int} {Ed : Option Addr} {Ee : Nat} {Ef : Option Addr} {Eg : Nat} {r : Bool} (h : M.spec_sameItem Cr Cs = some r) :
    Cal2 Try.prog 68 [(.agg #[(I Cr.1), (Sl Ed Cr.2.1 Ee), (I Cr.2.2)]), (.agg #[(I Cs.1), (Sl Ef Cs.2.1 Eg), (I Cs.2.2)])] [Ch.ro 0 (Sl Ed Cr.2.1 Ee) Cr.2.1, Ch.ro 0 (Sl Ef Cs.2.1 Eg) Cs.2.1] (fun n0 v L => v = (B r) ∧ L = []) := by
 refine cal2 (n := 25) Try.func68 rfl rfl rfl rfl ?_
 intro S0 σ0 n0 hn0 H
 unfold M.spec_sameItem at h
 refine c_seq (rg (st_ex (ex_box (cs := [(I Cr.1), (Sl Ed Cr.2.1 Ee), (I Cr.2.2)]) H hn0 rfl rfl) wn ?_))
 rintro _ σ2 ⟨b1, rfl, H, -⟩
 refine st_ex (ex_box (cs := [(I Cs.1), (Sl Ef Cs.2.1 Eg), (I Cs.2.2)]) H hn0 rfl rfl) wn ?_
 rintro _ σ4 ⟨b3, rfl, H, -⟩
 refine sa (B false) rfl (w_end (q_then (c_seq (rg (st (v := (pt b1 0)) (rv_fieldAddr (off := 0) (ft := 3) Try.underlying41 rfl ti3 rfl rfl) ?_)))))
 have hc5 := H.cell (u := (I Cr.1)) (o' := 0) 1 0 rfl rfl rfl
 refine st (v := (I Cr.1)) (rv_load1 Try.underlying3 rfl rfl hc5) (st (v := (pt b3 0)) (rv_fieldAddr (off := 0) (ft := 3) Try.underlying41 rfl ti3 rfl rfl) ?_)
 have hc6 := H.cell (u := (I Cs.1)) (o' := 0) 0 0 rfl rfl rfl
 refine st (v := (I Cs.1)) (rv_load1 Try.underlying3 rfl rfl hc6) (st (v := (B (Cr.1 == Cs.1))) (rv_eql (a := Cr.1) (b := Cs.1) rfl rfl) (sm (B (Cr.1 == Cs.1)) rfl ?_))
 rcases Bool.eq_false_or_eq_true (Cr.1 == Cs.1) with hb7 | hb7
 ·replace h := bif_t hb7 h
  refine st_g (v := (pt b1 2)) (congrArg some hb7) (rv_fieldAddr (off := 2) (ft := 3) Try.underlying41 rfl ti3 rfl rfl) ?_
  have hc8 := H.cell (u := (I Cr.2.2)) (o' := 2) 1 2 rfl rfl rfl
  refine st_g (v := (I Cr.2.2)) (congrArg some hb7) (rv_load1 Try.underlying3 rfl rfl hc8) (st_g (v := (pt b3 2)) (congrArg some hb7) (rv_fieldAddr (off := 2) (ft := 3) Try.underlying41 rfl ti3 rfl rfl) ?_)
  have hc9 := H.cell (u := (I Cs.2.2)) (o' := 2) 0 2 rfl rfl rfl
  refine st_g (v := (I Cs.2.2)) (congrArg some hb7) (rv_load1 Try.underlying3 rfl rfl hc9) (st_g (v := (B (Cr.2.2 == Cs.2.2))) (congrArg some hb7) (rv_eql (a := Cr.2.2) (b := Cs.2.2) rfl rfl) (st (v := (B (Cr.2.2 == Cs.2.2))) (rv_pick_t (congrArg B hb7) rfl) (sm (B (Cr.2.2 == Cs.2.2)) rfl ?_)))
  rcases Bool.eq_false_or_eq_true (Cr.2.2 == Cs.2.2) with hb10 | hb10
  ·replace h := bif_t hb10 h
   refine st_g (v := (pt b1 1)) (congrArg some hb10) (rv_fieldAddr (off := 1) (ft := 24) Try.underlying41 rfl ti24 rfl rfl) ?_
   have hc11 := H.cell (u := (Sl Ed Cr.2.1 Ee)) (o' := 1) 1 1 rfl rfl rfl
   refine st_g (v := (Sl Ed Cr.2.1 Ee)) (congrArg some hb10) (rv_load1 Try.underlying24 rfl rfl hc11) (st_g (v := (pt b3 1)) (congrArg some hb10) (rv_fieldAddr (off := 1) (ft := 24) Try.underlying41 rfl ti24 rfl rfl) ?_)
   have hc12 := H.cell (u := (Sl Ef Cs.2.1 Eg)) (o' := 1) 0 1 rfl rfl rfl
   refine st_g (v := (Sl Ef Cs.2.1 Eg)) (congrArg some hb10) (rv_load1 Try.underlying24 rfl rfl hc12) ?_
   revert h; refine br fun r13 hx14 h => ?_
   have hc15 := c_spec_dist (Et := Ed) (Eu := Ee) (Ev := Ef) (Ew := Eg) hx14
   refine st_call (cx_call hc15 (ent_f hc15.fn rfl) hn0 (H.sel' [2, 3, 0, 1, 2, 3] rfl rfl : Hp S0 σ0 _ ([_, _] ++ _))) (wanted_yes rfl (by exact (congrArg some hb10))) ?_
   rintro _ σ16 ⟨_, ⟨rfl, rfl⟩, H, -⟩
   replace H : Hp _ _ _ [_, _, _, _] := H
   refine st_g (v := (B (r13 == 0))) (congrArg some hb10) (rv_eql (a := r13) (b := 0) rfl rfl) (st (v := (B (r13 == 0))) (rv_pick_t (congrArg B hb10) rfl) (sa (B (r13 == 0)) rfl (w_end (q_then (c_ret ?_)))))
   obtain rfl := sj h
   exact fin_ret (v := (B (r13 == 0))) (results_ok Try.results68 (res_tmp (v := (B (r13 == 0))) rfl res_nil) rfl) ⟨rfl, rfl⟩ (H.sel' [] rfl rfl)
  ·replace h := bif_f hb10 h
   refine st_skip (congrArg some hb10) (st_skip (congrArg some hb10) (st_skip (congrArg some hb10) (st_skip (congrArg some hb10) (st_skip (congrArg some hb10) (st_skip (congrArg some hb10) (st (v := (B false)) (rv_pick_f (congrArg B hb10) rfl) (sa (B false) rfl (w_end (q_then (c_ret ?_))))))))))
   obtain rfl := sj h
   exact fin_ret (v := (B false)) (results_ok Try.results68 (res_tmp (v := (B false)) rfl res_nil) rfl) ⟨rfl, rfl⟩ (H.sel' [] rfl rfl)
 ·replace h := bif_f hb7 h
  refine st_skip (congrArg some hb7) (st_skip (congrArg some hb7) (st_skip (congrArg some hb7) (st_skip (congrArg some hb7) (st_skip (congrArg some hb7) (st (v := (B false)) (rv_pick_f (congrArg B hb7) rfl) (sm (B false) rfl (st_skip rfl (st_skip rfl (st_skip rfl (st_skip rfl (st_skip rfl ?_)))))))))))
  refine st_skip rfl (st (v := (B false)) (rv_pick_f rfl rfl) (sa (B false) rfl (w_end (q_then (c_ret ?_)))))
  obtain rfl := sj h
  exact fin_ret (v := (B false)) (results_ok Try.results68 (res_tmp (v := (B false)) rfl res_nil) rfl) ⟨rfl, rfl⟩ (H.sel' [] rfl rfl)

theorem c_spec_ChangedKeys {Cc : (List (Int × (Int × (List Int) × Int))) × (List Int)} {Eo : Int} {Ep : Int} {Cd : Option Addr} {Ce : Nat} {Cf : Option Addr} {Cg : Nat} {r : (List Int)} (h : M.spec_ChangedKeys Cc Eo Ep = some r) :
    Cal2 Try.prog 38 [(.agg #[(Sl Cd Cc.1 Ce), (Sl Cf Cc.2 Cg)]), (I Eo), (I Ep)] [Ch.ro 0 (Sl Cd Cc.1 Ce) Cc.1, Ch.ro 0 (Sl Cf Cc.2 Cg) Cc.2] (fun n0 v L => ∃ (az1 : Option Addr), ∃ (cz2 : Nat), v = (Sl az1 r cz2) ∧ L = [Ch.own n0 n0 (Sl az1 r cz2) r]) := by
 refine cal2 (n := 73) Try.func38 rfl rfl rfl rfl ?_
 intro S0 σ0 n0 hn0 H
 unfold M.spec_ChangedKeys at h
 refine c_seq (rg (st_ex (ex_box (cs := [(Sl Cd Cc.1 Ce), (Sl Cf Cc.2 Cg)]) H hn0 rfl rfl) wn ?_))
 rintro _ σ2 ⟨b1, rfl, H, -⟩
 refine sa (.slice none 0 0) rfl (w_end (q_then (c_seq (rg ?_))))
 refine st_ex (ex_buildSlice (el := n0) (xs := ([] : List Int)) (ps := []) (cs := []) H hn0 Try.underlying24 ti3 rfl rfl (by kernel_rfl) (.nil) rfl) wn ?_
 rintro _ σ4 ⟨b3, rfl, H, -⟩
 refine sa (Sl (some ⟨b3, 0, none⟩) ([] : List Int) 0) rfl (w_end (q_then (c_seq (c_seq ?_))))
 obtain ⟨o5, hj, h'⟩ := bind_some h
 clear h
 refine c_cut (fun e a w => e = .normal ∧ ∃ (ρ : Nat → Value) (σ : St), a = fr 73 (updL ρ [(1, (I Eo)), (2, (I Ep)), (3, (pt b1 0)), (7, (Sl (some ⟨b3, 0, none⟩) ([] : List Int) 0)), (26, (B o5))]) ∧ w = σ.w ∧ Hp S0 σ0 σ [Ch.ro 0 (Sl Cd Cc.1 Ce) Cc.1, Ch.ro 0 (Sl Cf Cc.2 Cg) Cc.2, Ch.bx n0 b1 0 [(Sl Cd Cc.1 Ce), (Sl Cf Cc.2 Cg)] [] [], Ch.own n0 n0 (Sl (some ⟨b3, 0, none⟩) ([] : List Int) 0) ([] : List Int)]) ?_ ?_
 ·clear h'
  rename _ = some o5 => h
  refine rg ?_
  have hc6 := H.cells 1 rfl
  refine st (v := (.agg #[(Sl Cd Cc.1 Ce), (Sl Cf Cc.2 Cg)])) (rv_load (cs := [(Sl Cd Cc.1 Ce), (Sl Cf Cc.2 Cg)]) Try.underlying26 rfl ti26 rfl rfl hc6) ?_
  revert h; refine br fun r7 hx8 h => ?_
  have hc9 := c_spec_validHistory (Cd := Cd) (Ce := Ce) (Cf := Cf) (Cg := Cg) hx8
  refine st_call (cx_call hc9 (ent_f hc9.fn rfl) hn0 (H.sel' [2, 3, 0, 1, 2, 3] rfl rfl : Hp S0 σ0 _ ([_, _] ++ _))) wn ?_
  rintro _ σ10 ⟨_, ⟨rfl, rfl⟩, H, -⟩
  replace H : Hp _ _ _ [_, _, _, _] := H
  refine st (v := (B (!r7))) (rv_not rfl) (sm (B (!r7)) rfl ?_)
  rcases Bool.eq_false_or_eq_true (!r7) with hb11 | hb11
  ·replace h := bif_t hb11 h
   refine st_skip (congrArg some hb11) (st_skip (congrArg some hb11) (st_skip (congrArg some hb11) (st (v := (B true)) (rv_pick_t (congrArg B hb11) rfl) (sm (B true) rfl (st_skip rfl (st_skip rfl (st_skip rfl (st (v := (B true)) (rv_pick_t rfl rfl) (w_end ?_)))))))))
   obtain rfl := sj h
   exact ⟨rfl, _, σ10, fr_join ⟨rfl, rfl, rfl, rfl, rfl, trivial⟩, rfl, H.sel' [2, 3, 1, 0] rfl rfl⟩
  ·replace h := bif_f hb11 h
   refine st_g (v := (I Eo)) (congrArg some hb11) (rv_move rfl) ?_
   revert h; refine br fun r12 hx13 h => ?_
   have hc14 := c_spec_inRange hx13
   refine st_call (cx_call hc14 (ent_f hc14.fn rfl) hn0 (H.sel' [0, 1, 2, 3] rfl rfl : Hp S0 σ0 _ ([] ++ _))) (wanted_yes rfl (by exact (congrArg some hb11))) ?_
   rintro _ σ15 ⟨_, ⟨rfl, rfl⟩, H, -⟩
   replace H : Hp _ _ _ [_, _, _, _] := H
   refine st_g (v := (B (!r12))) (congrArg some hb11) (rv_not rfl) (st (v := (B (!r12))) (rv_pick_f (congrArg B hb11) rfl) (sm (B (!r12)) rfl ?_))
   rcases Bool.eq_false_or_eq_true (!r12) with hb16 | hb16
   ·replace h := bif_t hb16 h
    refine st_skip (congrArg some hb16) (st_skip (congrArg some hb16) (st_skip (congrArg some hb16) (st (v := (B true)) (rv_pick_t (congrArg B hb16) rfl) (w_end ?_))))
    obtain rfl := sj h
    exact ⟨rfl, _, σ15, fr_join ⟨rfl, rfl, rfl, rfl, rfl, trivial⟩, rfl, H.sel' [2, 3, 1, 0] rfl rfl⟩
   ·replace h := bif_f hb16 h
    refine st_g (v := (I Ep)) (congrArg some hb16) (rv_move rfl) ?_
    revert h; refine br fun r17 hx18 h => ?_
    have hc19 := c_spec_inRange hx18
    refine st_call (cx_call hc19 (ent_f hc19.fn rfl) hn0 (H.sel' [0, 1, 2, 3] rfl rfl : Hp S0 σ0 _ ([] ++ _))) (wanted_yes rfl (by exact (congrArg some hb16))) ?_
    rintro _ σ20 ⟨_, ⟨rfl, rfl⟩, H, -⟩
    replace H : Hp _ _ _ [_, _, _, _] := H
    refine st_g (v := (B (!r17))) (congrArg some hb16) (rv_not rfl) (st (v := (B (!r17))) (rv_pick_f (congrArg B hb16) rfl) (w_end ?_))
    obtain rfl := sj h
    exact ⟨rfl, _, σ20, fr_join ⟨rfl, rfl, rfl, rfl, rfl, trivial⟩, rfl, H.sel' [2, 3, 1, 0] rfl rfl⟩
 ·clear hj
  have h := h'
  clear h' H
  rintro e a w ⟨rfl, ρ, σ21, rfl, rfl, H⟩
  refine q_then ?_
  refine cd_cond o5 rfl (fun hb22 => ?_) (fun hb22 => ?_)
  ·replace h := bif_t hb22 h
   refine c_seq (rg (sa (.slice none 0 0) rfl (w_end (q_then (c_ret (q_then_r ?_))))))
   replace H := H.nilOwn Int n0 n0
   obtain rfl := sj h
   exact fin_ret (v := (.slice none 0 0)) (results_ok Try.results38 (res_tmp (v := (.slice none 0 0)) rfl res_nil) rfl) ⟨none, 0, rfl, rfl⟩ (H.sel' [0] rfl rfl)
  ·replace h := bif_f hb22 h
   refine c_skip (q_then (c_seq (rg ?_)))
   have hc23 := H.cells 2 rfl
   refine st (v := (.agg #[(Sl Cd Cc.1 Ce), (Sl Cf Cc.2 Cg)])) (rv_load (cs := [(Sl Cd Cc.1 Ce), (Sl Cf Cc.2 Cg)]) Try.underlying26 rfl ti26 rfl rfl hc23) (sm (I Eo) rfl ?_)
   revert h; refine br fun r24 hx25 h => ?_
   have hc26 := c_spec_StoreAt (Cd := Cd) (Ce := Ce) (Cf := Cf) (Cg := Cg) hx25
   refine st_call (cx_call hc26 (ent_f hc26.fn rfl) hn0 (H.sel' [0, 1, 0, 1, 2, 3] rfl rfl : Hp S0 σ0 _ ([_, _] ++ _))) wn ?_
   rintro _ σ29 ⟨_, ⟨a27, c28, rfl, rfl⟩, H, -⟩
   replace H : Hp _ _ _ [_, _, _, _, _] := H
   refine sa (Sl a27 r24 c28) rfl (w_end (q_then (c_seq (rg ?_))))
   have hc30 := H.cells 3 rfl
   refine st (v := (.agg #[(Sl Cd Cc.1 Ce), (Sl Cf Cc.2 Cg)])) (rv_load (cs := [(Sl Cd Cc.1 Ce), (Sl Cf Cc.2 Cg)]) Try.underlying26 rfl ti26 rfl rfl hc30) (sm (I Ep) rfl ?_)
   revert h; refine br fun r31 hx32 h => ?_
   have hc33 := c_spec_StoreAt (Cd := Cd) (Ce := Ce) (Cf := Cf) (Cg := Cg) hx32
   refine st_call (cx_call hc33 (ent_f hc33.fn rfl) hn0 (H.sel' [1, 2, 0, 1, 2, 3, 4] rfl rfl : Hp S0 σ0 _ ([_, _] ++ _))) wn ?_
   rintro _ σ36 ⟨_, ⟨a34, c35, rfl, rfl⟩, H, -⟩
   replace H : Hp _ _ _ [_, _, _, _, _, _] := H
   refine sa (Sl a34 r31 c35) rfl (w_end (q_then (c_seq (c_seq (rg (sa (I 1) rfl (w_end (q_then ?_))))))))
   obtain ⟨o37, hj, h'⟩ := bind_some h
   clear h
   refine c_cut (fun e a w => e = .normal ∧ ∃ (ρ : Nat → Value) (σ : St) (aj1 : Option Addr) (cj2 : Nat), a = fr 73 (updL ρ [(7, (Sl aj1 o37 cj2))]) ∧ w = σ.w ∧ Hp S0 σ0 σ [Ch.own n0 n0 (Sl aj1 o37 cj2) o37]) ?_ ?_
   ·clear h'
    rename _ = some o37 => h
    refine c_blk (wp_loopM _ h (fun s38 a w => ∃ (ρ : Nat → Value) (σ : St) (aj1 : Option Addr) (cj2 : Nat), a = fr 73 (updL ρ [(7, (Sl aj1 s38.1 cj2)), (8, (Sl a27 r24 c28)), (9, (Sl a34 r31 c35)), (10, (I s38.2))]) ∧ w = σ.w ∧ Hp S0 σ0 σ [Ch.own n0 n0 (Sl aj1 s38.1 cj2) s38.1, Ch.own n0 n0 (Sl a27 r24 c28) r24, Ch.own n0 n0 (Sl a34 r31 c35) r31]) ⟨_, σ36, (some ⟨b3, 0, none⟩), 0, fr_join ⟨rfl, rfl, rfl, rfl, trivial⟩, rfl, H.sel' [5, 1, 0] rfl rfl⟩ ?_)
    clear h H
    rintro s38 a w o ⟨ρ, σ39, a40, c41, rfl, rfl, H⟩ h hres
    refine c_seq (c_seq (rg (sm (I s38.2) rfl (st (v := (B (decide (s38.2 ≤ 99)))) (rv_leq (a := s38.2) (b := 99) rfl rfl) (w_end (q_then ?_))))))
    refine cd_cond (decide (s38.2 ≤ 99)) rfl (fun hb42 => ?_) (fun hb42 => ?_)
    ·replace h := bif_t hb42 h
     refine c_skip (q_then (c_seq ?_))
     obtain ⟨o43, hj, h'⟩ := bind_some h
     clear h
     refine c_cut (fun e a w => e = .normal ∧ ∃ (ρ : Nat → Value) (σ : St) (aj1 : Option Addr) (cj2 : Nat), a = fr 73 (updL ρ [(7, (Sl aj1 o43 cj2)), (8, (Sl a27 r24 c28)), (9, (Sl a34 r31 c35)), (10, (I s38.2))]) ∧ w = σ.w ∧ Hp S0 σ0 σ [Ch.own n0 n0 (Sl aj1 o43 cj2) o43, Ch.own n0 n0 (Sl a27 r24 c28) r24, Ch.own n0 n0 (Sl a34 r31 c35) r31]) ?_ ?_
     ·clear h'
      rename _ = some o43 => h
      refine c_blk (c_seq (rg (sm (Sl a27 r24 c28) rfl (sm (I s38.2) rfl ?_))))
      revert h; refine br fun r44 hx45 h => ?_
      have hc46 := c_spec_keyAt (Ap := a27) (Aq := c28) hx45
      have hle := Nat.le_trans hn0 H.size
      refine st_call (cx_lend (Loan.lend Loan.nil) hc46 (ent_f hc46.fn rfl) (show Hp S0 σ0 _ ([Ch.own n0 n0 (Sl a27 r24 c28) r24] ++ ([] ++ [Ch.own n0 n0 (Sl a40 s38.1 c41) s38.1, Ch.own n0 n0 (Sl a34 r31 c35) r31])) from (H.sel' [1, 0, 2] rfl rfl)) (by rintro _ _ _ ⟨rfl, rfl⟩; exact trivial)) wn ?_
      rintro _ σ47 ⟨_, ⟨rfl, rfl⟩, H, -, -⟩
      replace H : Hp _ _ _ [_, _, _] := H
      clear hle
      replace H : Hp _ _ _ [_, _, _] := H
      refine sa (I r44) rfl (w_end (q_then (c_seq (rg (sm (Sl a34 r31 c35) rfl (sm (I s38.2) rfl ?_))))))
      revert h; refine br fun r48 hx49 h => ?_
      have hc50 := c_spec_keyAt (Ap := a34) (Aq := c35) hx49
      have hle := Nat.le_trans hn0 H.size
      refine st_call (cx_lend (Loan.lend Loan.nil) hc50 (ent_f hc50.fn rfl) (show Hp S0 σ0 _ ([Ch.own n0 n0 (Sl a34 r31 c35) r31] ++ ([] ++ [Ch.own n0 n0 (Sl a27 r24 c28) r24, Ch.own n0 n0 (Sl a40 s38.1 c41) s38.1])) from (H.sel' [2, 0, 1] rfl rfl)) (by rintro _ _ _ ⟨rfl, rfl⟩; exact trivial)) wn ?_
      rintro _ σ51 ⟨_, ⟨rfl, rfl⟩, H, -, -⟩
      replace H : Hp _ _ _ [_, _, _] := H
      clear hle
      replace H : Hp _ _ _ [_, _, _] := H
      refine sa (I r48) rfl (w_end (q_then (c_seq ?_)))
      obtain ⟨o52, hj, h'⟩ := bind_some h
      clear h
      refine c_cut (fun e a w => e = .normal ∧ ∃ (ρ : Nat → Value) (σ : St), a = fr 73 (updL ρ [(7, (Sl a40 s38.1 c41)), (8, (Sl a27 r24 c28)), (9, (Sl a34 r31 c35)), (10, (I s38.2)), (67, (B o52))]) ∧ w = σ.w ∧ Hp S0 σ0 σ [Ch.own n0 n0 (Sl a40 s38.1 c41) s38.1, Ch.own n0 n0 (Sl a27 r24 c28) r24, Ch.own n0 n0 (Sl a34 r31 c35) r31]) ?_ ?_
      ·clear h'
       rename _ = some o52 => h
       refine rgP (σ := σ51) 21 (by kernel_rfl) (by kernel_rfl) (by kernel_rfl) ?_
       refine sq (v := (I r44)) (rv_move rfl) (sq (v := (B (decide (r44 < 0)))) (rv_lss (a := r44) (b := 0) rfl rfl) (sq (v := (I r48)) (rv_move rfl) (sq (v := (B (decide (r48 < 0)))) (rv_lss (a := r48) (b := 0) rfl rfl) (sq (v := (B ((decide (r44 < 0)) != (decide (r48 < 0))))) (rv_bneq Try.underlying4 rfl rfl) (sq (v := (B ((decide (r44 < 0)) != (decide (r48 < 0))))) (rv_move rfl) ?_)))))
       rcases Bool.eq_false_or_eq_true ((decide (r44 < 0)) != (decide (r48 < 0))) with hb53 | hb53
       ·replace h := bif_t hb53 h
        refine sq_skip (congrArg some hb53) (sq_skip (congrArg some hb53) (sq_skip (congrArg some hb53) (sq_skip_u rfl (sq_skip_u rfl (sq_skip (congrArg some hb53) (sq_skip (congrArg some hb53) (sq_skip_u rfl (sq_skip_u rfl (sq_skip_u rfl (sq_skip_u rfl (sq_skip_u rfl ?_)))))))))))
        refine sq_skip_u rfl (sq_skip_u rfl (sq_skip_u rfl (sq_end ?_)))
        intro σ54 hm55
        replace H := H.grow (hm55.mono fun _ h => h); clear hm55
        refine st_skip_u rfl (st_skip_u rfl (st_skip (congrArg some hb53) (st (v := (B true)) (rv_pick_t (congrArg B hb53) rfl) (w_end ?_))))
        obtain rfl := sj h
        exact ⟨rfl, _, σ54, fr_join ⟨rfl, rfl, rfl, rfl, rfl, trivial⟩, rfl, H.sel' [2, 1, 0] rfl rfl⟩
       ·replace h := bif_f hb53 h
        refine sq_g (v := (I r44)) (congrArg some hb53) (rv_move rfl) (sq_g (v := (B (decide (0 ≤ r44)))) (congrArg some hb53) (rv_geq (a := r44) (b := 0) rfl rfl) (sq_g (v := (B (decide (0 ≤ r44)))) (congrArg some hb53) (rv_move rfl) ?_))
        rcases Bool.eq_false_or_eq_true (decide (0 ≤ r44)) with hb56 | hb56
        ·replace h := bif_t hb56 h
         refine sq_g (v := (I r48)) (congrArg some hb56) (rv_move rfl) (sq_g (v := (B (decide (0 ≤ r48)))) (congrArg some hb56) (rv_geq (a := r48) (b := 0) rfl rfl) (sq_g (v := (B (decide (0 ≤ r48)))) (congrArg some hb53) (rv_pick_t (congrArg B hb56) rfl) (sq_g (v := (B (decide (0 ≤ r48)))) (congrArg some hb53) (rv_move rfl) ?_)))
         rcases Bool.eq_false_or_eq_true (decide (0 ≤ r48)) with hb57 | hb57
         ·replace h := bif_t hb57 h
          refine sq_g (v := (Sl a27 r24 c28)) (congrArg some hb57) (rv_move rfl) (sq_g (v := (I r44)) (congrArg some hb57) (rv_move rfl) ?_)
          revert h; refine br fun x58 hx59 h => ?_
          obtain ⟨b61, o62, hi60, -⟩ := (H.own 1 rfl).ix hx59
          refine sq_g (v := (pt b61 o62)) (congrArg some hb57) (rv_ix Try.underlying33 ti41 rfl rfl hi60) ?_
          obtain ⟨_, ⟨_, _, rfl, rfl, ⟨_, _, rfl, ⟨_, rfl, hR67⟩, rfl⟩⟩, hl63, hc64⟩ := ((H.own 1 rfl).at hx59 hi60).cells
          obtain ⟨a65, c66, rfl⟩ := hR67.isSl
          replace H := H.add (d := Ch.ro n0 (Sl a65 x58.2.1 c66) x58.2.1) hR67 (fun _ h => h)
          clear hR67
          refine sq_g (v := (.agg #[(I x58.1), (Sl a65 x58.2.1 c66), (I x58.2.2)])) (congrArg some hb57) (rv_load Try.underlying41 rfl ti41 rfl hl63 hc64) (sq_g (v := (Sl a34 r31 c35)) (congrArg some hb57) (rv_move rfl) (sq_g (v := (I r48)) (congrArg some hb57) (rv_move rfl) ?_))
          revert h; refine br fun x68 hx69 h => ?_
          obtain ⟨b71, o72, hi70, -⟩ := (H.own 1 rfl).ix hx69
          refine sq_g (v := (pt b71 o72)) (congrArg some hb57) (rv_ix Try.underlying33 ti41 rfl rfl hi70) ?_
          obtain ⟨_, ⟨_, _, rfl, rfl, ⟨_, _, rfl, ⟨_, rfl, hR77⟩, rfl⟩⟩, hl73, hc74⟩ := ((H.own 1 rfl).at hx69 hi70).cells
          obtain ⟨a75, c76, rfl⟩ := hR77.isSl
          replace H := H.add (d := Ch.ro n0 (Sl a75 x68.2.1 c76) x68.2.1) hR77 (fun _ h => h)
          clear hR77
          refine sq_g (v := (.agg #[(I x68.1), (Sl a75 x68.2.1 c76), (I x68.2.2)])) (congrArg some hb57) (rv_load Try.underlying41 rfl ti41 rfl hl73 hc74) (sq_end ?_)
          intro σ78 hm79
          replace H := H.grow (hm79.mono fun _ h => h); clear hm79
          replace H := H.roLow 1 0 rfl (Nat.zero_le _)
          replace H := H.roLow 1 0 rfl (Nat.zero_le _)
          revert h; refine br fun r80 hx81 h => ?_
          have hc82 := c_spec_sameItem (Ed := a65) (Ee := c66) (Ef := a75) (Eg := c76) hx81
          refine st_call (cx_call hc82 (ent_f hc82.fn rfl) hn0 (H.sel' [1, 0, 0, 1, 2, 3, 4, 5, 6] rfl rfl : Hp S0 σ0 _ ([_, _] ++ _))) (wanted_yes rfl (by exact (congrArg some hb57))) ?_
          rintro _ σ83 ⟨_, ⟨rfl, rfl⟩, H, -⟩
          replace H : Hp _ _ _ [_, _, _, _, _, _, _] := H
          refine st_g (v := (B (!r80))) (congrArg some hb57) (rv_not rfl) (st_g (v := (B (!r80))) (congrArg some hb53) (rv_pick_t (congrArg B hb57) rfl) (st (v := (B (!r80))) (rv_pick_f (congrArg B hb53) rfl) (w_end ?_)))
          obtain rfl := sj h
          exact ⟨rfl, _, σ83, fr_join ⟨rfl, rfl, rfl, rfl, rfl, trivial⟩, rfl, H.sel' [6, 5, 4] rfl rfl⟩
         ·replace h := bif_f hb57 h
          refine sq_skip (congrArg some hb57) (sq_skip (congrArg some hb57) (sq_skip (congrArg some hb57) (sq_skip (congrArg some hb57) (sq_skip (congrArg some hb57) (sq_skip (congrArg some hb57) (sq_skip (congrArg some hb57) (sq_skip (congrArg some hb57) (sq_end ?_))))))))
          intro σ84 hm85
          replace H := H.grow (hm85.mono fun _ h => h); clear hm85
          refine st_skip (congrArg some hb57) (st_skip (congrArg some hb57) (st_g (v := (B false)) (congrArg some hb53) (rv_pick_f (congrArg B hb57) rfl) (st (v := (B false)) (rv_pick_f (congrArg B hb53) rfl) (w_end ?_))))
          obtain rfl := sj h
          exact ⟨rfl, _, σ84, fr_join ⟨rfl, rfl, rfl, rfl, rfl, trivial⟩, rfl, H.sel' [2, 1, 0] rfl rfl⟩
        ·replace h := bif_f hb56 h
         refine sq_skip (congrArg some hb56) (sq_skip (congrArg some hb56) (sq_g (v := (B false)) (congrArg some hb53) (rv_pick_f (congrArg B hb56) rfl) (sq_g (v := (B false)) (congrArg some hb53) (rv_move rfl) (sq_skip rfl (sq_skip rfl (sq_skip rfl (sq_skip rfl (sq_skip rfl (sq_skip rfl (sq_skip rfl (sq_skip rfl ?_)))))))))))
         refine sq_end ?_
         intro σ86 hm87
         replace H := H.grow (hm87.mono fun _ h => h); clear hm87
         refine st_skip rfl (st_skip rfl (st_g (v := (B false)) (congrArg some hb53) (rv_pick_f rfl rfl) (st (v := (B false)) (rv_pick_f (congrArg B hb53) rfl) (w_end ?_))))
         obtain rfl := sj h
         exact ⟨rfl, _, σ86, fr_join ⟨rfl, rfl, rfl, rfl, rfl, trivial⟩, rfl, H.sel' [2, 1, 0] rfl rfl⟩
      ·clear hj
       have h := h'
       clear h' H
       rintro e a w ⟨rfl, ρ, σ88, rfl, rfl, H⟩
       refine q_then ?_
       refine cd_cond o52 rfl (fun hb89 => ?_) (fun hb89 => ?_)
       ·replace h := bif_t hb89 h
        refine rg (sm (Sl a40 s38.1 c41) rfl (sm (I s38.2) rfl ?_))
        refine st_ex (ex_buildSlice (el := n0) (xs := ([s38.2] : List Int)) (ps := [(0, (I s38.2))]) (cs := [(I s38.2)]) H hn0 Try.underlying24 ti3 rfl rfl (by kernel_rfl) (.cons (c := [(I s38.2)]) rfl (.nil)) rfl) wn ?_
        rintro _ σ91 ⟨b90, rfl, H, -⟩
        revert h; refine br fun xs92 hx93 h => ?_
        refine st_ex (ex_append H (i := 1) rfl Try.underlying24 Try.underlying24 ti3 rfl rfl (by decide) (H.own 0 rfl).rd hx93 hn0 rfl rfl) wn ?_
        rintro _ σ96 ⟨a94, c95, rfl, H, -⟩
        refine sa (Sl a94 xs92 c95) rfl (w_end (q_blk ?_))
        obtain rfl := sj h
        exact ⟨rfl, _, σ96, a94, c95, fr_join ⟨rfl, rfl, rfl, rfl, trivial⟩, rfl, H.sel' [0, 2, 3] rfl rfl⟩
       ·replace h := bif_f hb89 h
        refine c_skip (q_blk ?_)
        obtain rfl := sj h
        exact ⟨rfl, _, σ88, a40, c41, fr_join ⟨rfl, rfl, rfl, rfl, trivial⟩, rfl, H.sel' [0, 1, 2] rfl rfl⟩
     ·clear hj
      have h := h'
      clear h' H
      rintro e a w ⟨rfl, ρ, σ97, a98, c99, rfl, rfl, H⟩
      refine q_then (rg (sm (I s38.2) rfl (st (v := (I (w64 (s38.2 + 1)))) (rv_add (a := s38.2) (b := 1) rfl rfl) (sa (I (w64 (s38.2 + 1))) rfl (w_end (q_then ?_))))))
      obtain rfl := sj h
      exact ⟨_, rfl, _, σ97, a98, c99, fr_join ⟨rfl, rfl, rfl, rfl, trivial⟩, rfl, H.sel' [0, 1, 2] rfl rfl⟩
    ·replace h := bif_f hb42 h
     refine c_exit (q_then_x (q_then_x (q_blk_hit ?_)))
     obtain rfl := sj h
     obtain rfl := hres _ rfl
     exact ⟨rfl, _, σ39, a40, c41, fr_join ⟨rfl, trivial⟩, rfl, H.sel' [0] rfl rfl⟩
   ·clear hj
    have h := h'
    clear h' H
    rintro e a w ⟨rfl, ρ, σ100, a101, c102, rfl, rfl, H⟩
    refine q_then (c_seq (rg (sm (Sl a101 o37 c102) rfl (sa (Sl a101 o37 c102) rfl (w_end (q_then (c_ret ?_)))))))
    obtain rfl := sj h
    exact fin_ret (v := (Sl a101 o37 c102)) (results_ok Try.results38 (res_tmp (v := (Sl a101 o37 c102)) rfl res_nil) rfl) ⟨a101, c102, rfl, rfl⟩ (H.sel' [0] rfl rfl)

theorem c_impl_dropChange_entry {Bi : Int}  {r : (Int × (Int × (List Int) × Int))} (h : M.impl_dropChange_entry Bi = some r) :
    Cal2 Try.prog 69 [(.agg #[(I Bi)])] [] (fun n0 v L => v = (.agg #[(I r.1), (I r.2.1), (.slice none 0 0), (I r.2.2.2)]) ∧ L = []) := by
 refine cal2 (n := 7) Try.func69 rfl rfl rfl rfl ?_
 intro S0 σ0 n0 hn0 H
 unfold M.impl_dropChange_entry at h
 refine c_seq (rg (st_ex (ex_box (cs := [(I Bi)]) H hn0 rfl rfl) wn ?_))
 rintro _ σ2 ⟨b1, rfl, H, -⟩
 refine st_ex (ex_alloc (cs := [(I 0), (I 0), (.slice none 0 0), (I 0)]) H hn0 ti43 rfl) wn ?_
 rintro _ σ4 ⟨b3, rfl, H, -⟩
 refine w_end (q_then (c_seq (rg (st (v := (pt b1 0)) (rv_fieldAddr (off := 0) (ft := 3) Try.underlying94 rfl ti3 rfl rfl) ?_))))
 have hc5 := H.cell (u := (I Bi)) (o' := 0) 1 0 rfl rfl rfl
 refine st (v := (I Bi)) (rv_load1 Try.underlying3 rfl rfl hc5) ?_
 refine st (v := (.agg #[(I Bi), (.slice none 0 0), (I 0)])) (rv_build (ps := [(0, (I Bi))]) Try.underlying41 ti41 (bp41 Try.underlying41) rfl (by kernel_rfl)) ?_
 refine st (v := (.agg #[(I 2), (I Bi), (.slice none 0 0), (I 0)])) (rv_build (ps := [(0, (I 2)), (1, (.agg #[(I Bi), (.slice none 0 0), (I 0)]))]) Try.underlying43 ti43 (bp43 Try.underlying43) rfl (by kernel_rfl)) ?_
 refine st_exS (ex_store_box (k := 0) (cs := [(I 0), (I 0), (.slice none 0 0), (I 0)]) (vs := [(I 2), (I Bi), (.slice none 0 0), (I 0)]) (cs' := [(I 2), (I Bi), (.slice none 0 0), (I 0)]) H (i := 0) rfl ti43 rfl rfl rfl rfl rfl (Nat.le_of_ble_eq_true rfl) (by simp [plain]) rfl) wn ?_
 rintro σ6 ⟨H, -⟩
 refine w_end (q_then (c_ret ?_))
 obtain rfl := sj h
 exact fin_ret (v := (.agg #[(I 2), (I Bi), (.slice none 0 0), (I 0)])) (results_ok Try.results69 (res_cell rfl (run_cellRes (cs := [(I 2), (I Bi), (.slice none 0 0), (I 0)]) Try.underlying43 rfl ti43 rfl (H.cells 0 rfl)) res_nil) rfl) ⟨rfl, rfl⟩ (H.sel' [] rfl rfl)

theorem c_impl_hasItem_1__p_impl_Item {Ey : Int × (List Int) × Int} {Ez : Int × (List Int) × Int} {Fa : Option Addr} {Fb : Nat} {Fc : Option Addr} {Fd : Nat} {Fe Ff Fg : Nat} {Fh Fi : List Value} {r : Bool} (h : M.impl_hasItem_1__p_impl_Item Ey Ez = some r) :
    Cal2 Try.prog 100 [(.agg #[(I Ey.1), (Sl Fa Ey.2.1 Fb), (I Ey.2.2)]), (pt Ff Fg)] [Ch.ro 0 (Sl Fa Ey.2.1 Fb) Ey.2.1, Ch.bx Fe Ff Fg [(I Ez.1), (Sl Fc Ez.2.1 Fd), (I Ez.2.2)] Fh Fi, Ch.ro 0 (Sl Fc Ez.2.1 Fd) Ez.2.1] (fun n0 v L => v = (B r) ∧ L = [Ch.bx Fe Ff Fg [(I Ez.1), (Sl Fc Ez.2.1 Fd), (I Ez.2.2)] Fh Fi]) := by
 refine cal2 (n := 7) Try.func100 rfl rfl rfl rfl ?_
 intro S0 σ0 n0 hn0 H
 unfold M.impl_hasItem_1__p_impl_Item at h
 refine c_seq (rg (st_ex (ex_box (cs := [(I Ey.1), (Sl Fa Ey.2.1 Fb), (I Ey.2.2)]) H hn0 rfl rfl) wn ?_))
 rintro _ σ2 ⟨b1, rfl, H, -⟩
 refine sa (B false) rfl (w_end (q_then (c_seq (rg ?_))))
 have hc3 := H.cells 2 rfl
 refine st (v := (.agg #[(I Ez.1), (Sl Fc Ez.2.1 Fd), (I Ez.2.2)])) (rv_load (cs := [(I Ez.1), (Sl Fc Ez.2.1 Fd), (I Ez.2.2)]) Try.underlying41 rfl ti41 rfl rfl hc3) ?_
 have hc4 := H.cells 0 rfl
 refine st (v := (.agg #[(I Ey.1), (Sl Fa Ey.2.1 Fb), (I Ey.2.2)])) (rv_load (cs := [(I Ey.1), (Sl Fa Ey.2.1 Fb), (I Ey.2.2)]) Try.underlying41 rfl ti41 rfl rfl hc4) ?_
 revert h; refine br fun r5 hx6 h => ?_
 have hc7 := c_impl_equalItems (Ed := Fc) (Ee := Fd) (Ef := Fa) (Eg := Fb) hx6
 refine st_call (cx_call hc7 (ent_f hc7.fn rfl) hn0 (H.sel' [3, 1, 0, 1, 2, 3] rfl rfl : Hp S0 σ0 _ ([_, _] ++ _))) wn ?_
 rintro _ σ8 ⟨_, ⟨rfl, rfl⟩, H, -⟩
 replace H : Hp _ _ _ [_, _, _, _] := H
 refine sa (B r5) rfl (w_end (q_then (c_ret ?_)))
 obtain rfl := sj h
 exact fin_ret (v := (B r5)) (results_ok Try.results100 (res_tmp (v := (B r5)) rfl res_nil) rfl) ⟨rfl, rfl⟩ (H.sel' [2] rfl rfl)

end Go.Vs
