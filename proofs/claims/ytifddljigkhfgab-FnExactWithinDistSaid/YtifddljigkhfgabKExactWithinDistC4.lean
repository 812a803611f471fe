/- The functions compute what their models say. -/
import Derived.Test.YtifddljigkhfgabKExactWithinDistC3
set_option linter.unusedVariables false
set_option linter.unusedSimpArgs false
set_option maxRecDepth 20000
namespace Go.Vs
open Go Go.Proofs
attribute [local irreducible] Code.wp Code.wpIn wpList wpListIn wpQuiet Calls CallsIn

theorem c_slices_partitionCmpFunc_impl_Hit__impl_compareHits {data_0 : List (Int × Int)} {a_1 : Int} {b_2 : Int} {pivot_3 : Int} {adata_0 : Option Addr} {cdata_0 : Nat} {r : Int × Bool × (List (Int × Int))} (h : M.slices_partitionCmpFunc_impl_Hit__impl_compareHits data_0 a_1 b_2 pivot_3 = some r) :
    Cal2 Try.prog 150 [(Sl adata_0 data_0 cdata_0), (I a_1), (I b_2), (I pivot_3), (.func (.func 101) #[] #[])] [Ch.own 0 0 (Sl adata_0 data_0 cdata_0) data_0] (fun n0 v L => v = (.tuple #[(I r.1), (B r.2.1)]) ∧ L = [Ch.own 0 0 (Sl adata_0 r.2.2 cdata_0) r.2.2] ∧ r.2.2.length = data_0.length) := by
 refine cal2 (n := 178) Try.func150 rfl rfl rfl rfl ?_
 intro S0 σ0 n0 hn0 H
 unfold M.slices_partitionCmpFunc_impl_Hit__impl_compareHits at h
 refine c_seq ?_
 refine rg ?_
 refine st (v := (I 0)) (rv_assign rfl) ?_
 refine st (v := (B false)) (rv_assign rfl) ?_
 refine w_end ?_
 refine q_then ?_
 refine c_seq ?_
 obtain ⟨x1, hx2, h'⟩ := bind_some h
 clear h
 have h := h'; clear h'
 obtain ⟨b4, o5, hi3, -⟩ := (H.own 0 rfl).ix hx2
 obtain ⟨_, ⟨_, _, rfl, rfl, rfl⟩, hl6, hc7⟩ := ((H.own 0 rfl).at hx2 hi3).cells
 obtain ⟨x8, hx9, h'⟩ := bind_some h
 clear h
 have h := h'; clear h'
 obtain ⟨b11, o12, hi10, -⟩ := (H.own 0 rfl).ix hx9
 obtain ⟨_, ⟨_, _, rfl, rfl, rfl⟩, hl13, hc14⟩ := ((H.own 0 rfl).at hx9 hi10).cells
 obtain ⟨x15, hx16, h'⟩ := bind_some h
 clear h
 have h := h'; clear h'
 obtain ⟨b18, o19, hi17, -⟩ := (H.own 0 rfl).ix hx16
 have Hs := H
 refine rg2 (σ := σ0) (Nm := Unit) 14 [13] [[false], [true]] [[(0, 0)], [(0, 0)], [(0, 0), (1, 1)], [(0, 0), (1, 1)], [(0, 0)], [(0, 0)], [(0, 0)], [(0, 0)], [(0, 0)], [(0, 0)], [(0, 0)], [(0, 0)], [(0, 0)], [(0, 1)]] 1 [fun (_nm : Unit) => fun σm => Hp S0 σ0 σm [Ch.own 0 0 (Sl adata_0 data_0 cdata_0) data_0] ∧ Md (cov []) σ0 σm, fun (_nm : Unit) => fun σm => Hp S0 σ0 σm [Ch.own 0 0 (Sl adata_0 data_0 cdata_0) (data_0.set a_1.toNat (x1.1, x1.2))] ∧ Md (fun i => (cov []) i ∨ (fun b => blk (Sl adata_0 data_0 cdata_0) = some b) i) σ0 σm] [fun (_nm : Unit) => (Sl adata_0 data_0 cdata_0), fun (_nm : Unit) => (I a_1), fun (_nm : Unit) => (Sl adata_0 data_0 cdata_0), fun (_nm : Unit) => (I pivot_3), fun (_nm : Unit) => (Sl adata_0 data_0 cdata_0), fun (_nm : Unit) => (I pivot_3), fun (_nm : Unit) => (pt b4 o5), fun (_nm : Unit) => (.agg #[(I x1.1), (I x1.2)]), fun (_nm : Unit) => (Sl adata_0 data_0 cdata_0), fun (_nm : Unit) => (I a_1), fun (_nm : Unit) => (pt b11 o12), fun (_nm : Unit) => (.agg #[(I x8.1), (I x8.2)]), fun (_nm : Unit) => (pt b18 o19), fun (_nm : Unit) => undef] () (by kernel_rfl) (by kernel_rfl) ?_ ?_ ?_
 ·intro σm m0
  exact ⟨H.grow (m0.mono fun _ h => h.elim), m0⟩
 ·refine all_cons (obs_v rfl (by
    intro k; intro _nm ρ σm hJ hoff hdep
    have e0 : look 178 ρ 0 = (Sl adata_0 data_0 cdata_0) := look_off (hoff 0 rfl) rfl
    exact dp_v (v := (Sl adata_0 data_0 cdata_0)) (wanted_none _ rfl _) (rv_move e0) rfl hJ)) ?_
  refine all_cons (obs_v rfl (by
    intro k; intro _nm ρ σm hJ hoff hdep
    have e1 : look 178 ρ 1 = (I a_1) := look_off (hoff 1 rfl) rfl
    exact dp_v (v := (I a_1)) (wanted_none _ rfl _) (rv_move e1) rfl hJ)) ?_
  refine all_cons (obs_v rfl (by
    intro k; intro _nm ρ σm hJ hoff hdep
    have e0 : look 178 ρ 0 = (Sl adata_0 data_0 cdata_0) := look_off (hoff 0 rfl) rfl
    exact dp_v (v := (Sl adata_0 data_0 cdata_0)) (wanted_none _ rfl _) (rv_move e0) rfl hJ)) ?_
  refine all_cons (obs_v rfl (by
    intro k; intro _nm ρ σm hJ hoff hdep
    have e3 : look 178 ρ 3 = (I pivot_3) := look_off (hoff 3 rfl) rfl
    exact dp_v (v := (I pivot_3)) (wanted_none _ rfl _) (rv_move e3) rfl hJ)) ?_
  refine all_cons (obs_v rfl (by
    intro k; intro _nm ρ σm hJ hoff hdep
    have e0 : look 178 ρ 0 = (Sl adata_0 data_0 cdata_0) := look_off (hoff 0 rfl) rfl
    exact dp_v (v := (Sl adata_0 data_0 cdata_0)) (wanted_none _ rfl _) (rv_move e0) rfl hJ)) ?_
  refine all_cons (obs_v rfl (by
    intro k; intro _nm ρ σm hJ hoff hdep
    have e3 : look 178 ρ 3 = (I pivot_3) := look_off (hoff 3 rfl) rfl
    exact dp_v (v := (I pivot_3)) (wanted_none _ rfl _) (rv_move e3) rfl hJ)) ?_
  refine all_cons (obs_v rfl (by
    intro k; intro _nm ρ σm hJ hoff hdep
    have e18 : look 178 ρ 18 = (Sl adata_0 data_0 cdata_0) := hdep 4 rfl rfl 18 rfl
    have e19 : look 178 ρ 19 = (I pivot_3) := hdep 5 rfl rfl 19 rfl
    exact dp_v (v := (pt b4 o5)) (wanted_none _ rfl _) (rv_ix Try.underlying27 ti64 e18 e19 hi3) rfl hJ)) ?_
  refine all_cons (by
    refine ⟨?_, ?_⟩
    ·intro _nm ρ σm hJ hoff hdep
     have e20 : look 178 ρ 20 = (pt b4 o5) := hdep 6 rfl rfl 20 rfl
     obtain ⟨H, m⟩ := id hJ
     obtain ⟨_, ⟨_, _, rfl, rfl, rfl⟩, hl6, hc7⟩ := ((H.own 0 rfl).at hx2 hi3).cells
     exact dp_v (v := (.agg #[(I x1.1), (I x1.2)])) (wanted_none _ rfl _) (rv_load Try.underlying64 rfl ti64 e20 hl6 hc7) rfl hJ
    trivial) ?_
  refine all_cons (obs_v rfl (by
    intro k; intro _nm ρ σm hJ hoff hdep
    have e0 : look 178 ρ 0 = (Sl adata_0 data_0 cdata_0) := look_off (hoff 0 rfl) rfl
    exact dp_v (v := (Sl adata_0 data_0 cdata_0)) (wanted_none _ rfl _) (rv_move e0) rfl hJ)) ?_
  refine all_cons (obs_v rfl (by
    intro k; intro _nm ρ σm hJ hoff hdep
    have e1 : look 178 ρ 1 = (I a_1) := look_off (hoff 1 rfl) rfl
    exact dp_v (v := (I a_1)) (wanted_none _ rfl _) (rv_move e1) rfl hJ)) ?_
  refine all_cons (obs_v rfl (by
    intro k; intro _nm ρ σm hJ hoff hdep
    have e22 : look 178 ρ 22 = (Sl adata_0 data_0 cdata_0) := hdep 8 rfl rfl 22 rfl
    have e23 : look 178 ρ 23 = (I a_1) := hdep 9 rfl rfl 23 rfl
    exact dp_v (v := (pt b11 o12)) (wanted_none _ rfl _) (rv_ix Try.underlying27 ti64 e22 e23 hi10) rfl hJ)) ?_
  refine all_cons (by
    refine ⟨?_, ?_⟩
    ·intro _nm ρ σm hJ hoff hdep
     have e24 : look 178 ρ 24 = (pt b11 o12) := hdep 10 rfl rfl 24 rfl
     obtain ⟨H, m⟩ := id hJ
     obtain ⟨_, ⟨_, _, rfl, rfl, rfl⟩, hl13, hc14⟩ := ((H.own 0 rfl).at hx9 hi10).cells
     exact dp_v (v := (.agg #[(I x8.1), (I x8.2)])) (wanted_none _ rfl _) (rv_load Try.underlying64 rfl ti64 e24 hl13 hc14) rfl hJ
    trivial) ?_
  refine all_cons (obs_v rfl (by
    intro k; intro _nm ρ σm hJ hoff hdep
    have e14 : look 178 ρ 14 = (Sl adata_0 data_0 cdata_0) := hdep 0 rfl rfl 14 rfl
    have e15 : look 178 ρ 15 = (I a_1) := hdep 1 rfl rfl 15 rfl
    exact dp_v (v := (pt b18 o19)) (wanted_none _ rfl _) (rv_ix Try.underlying27 ti64 e14 e15 hi17) rfl hJ)) ?_
  refine all_cons (by
    refine ⟨?_, ?_⟩
    ·intro _nm ρ σm hJ hoff hdep
     have e26 : look 178 ρ 26 = (pt b18 o19) := hdep 12 rfl rfl 26 rfl
     have e21 : look 178 ρ 21 = (.agg #[(I x1.1), (I x1.2)]) := hdep 7 rfl rfl 21 rfl
     obtain ⟨H, m⟩ := id hJ
     refine dp_exS (wanted_none _ rfl _) rfl (ex_store_own (e' := (x1.1, x1.2)) (vs := [(I x1.1), (I x1.2)]) (k := 0) H (i := 0) rfl ti64 hx16 hi17 e26 rfl e21 rfl rfl (Nat.le_of_ble_eq_true rfl) (by simp [plain]) (by rintro _ ⟨_, _, rfl, rfl, rfl⟩; exact ⟨[(I x1.1)], [(I x1.2)], rfl, rfl, rfl⟩)) ?_
     rintro σq ⟨H2, m2⟩
     exact ⟨_, (), rfl, ⟨H2.sel' [0] rfl rfl, m.comp m2⟩, stab [0, 1, 2, 3, 4, 5, 6, 7, 8, 9, 10, 11, 12] (by kernel_rfl) ⟨rfl, rfl, rfl, rfl, rfl, rfl, rfl, rfl, rfl, rfl, rfl, rfl, rfl, trivial⟩⟩
    trivial) ?_
  exact all_nil
 ·intro _nm ρ σ20 hJ hoff hrel
  have e0 : look 178 ρ 0 = (Sl adata_0 data_0 cdata_0) := look_off (hoff 0 rfl) rfl
  have e1 : look 178 ρ 1 = (I a_1) := look_off (hoff 1 rfl) rfl
  have e2 : look 178 ρ 2 = (I b_2) := look_off (hoff 2 rfl) rfl
  have e4 : look 178 ρ 4 = (.func (.func 101) #[] #[]) := look_off (hoff 4 rfl) rfl
  have e16 : look 178 ρ 16 = (Sl adata_0 data_0 cdata_0) := hrel 2 rfl 16 rfl
  have e17 : look 178 ρ 17 = (I pivot_3) := hrel 3 rfl 17 rfl
  have e25 : look 178 ρ 25 = (.agg #[(I x8.1), (I x8.2)]) := hrel 11 rfl 25 rfl
  obtain ⟨H, -⟩ := (show Hp S0 σ0 σ20 [Ch.own 0 0 (Sl adata_0 data_0 cdata_0) (data_0.set a_1.toNat (x1.1, x1.2))] ∧ Md (fun i => (cov []) i ∨ (fun b => blk (Sl adata_0 data_0 cdata_0) = some b) i) σ0 σ20 from hJ)
  clear hJ Hs
  rw [fr_lookL (L := [(0, (Sl adata_0 data_0 cdata_0)), (1, (I a_1)), (2, (I b_2)), (4, (.func (.func 101) #[] #[])), (16, (Sl adata_0 data_0 cdata_0)), (17, (I pivot_3)), (25, (.agg #[(I x8.1), (I x8.2)]))]) ⟨e0, e1, e2, e4, e16, e17, e25, trivial⟩]
  clear hoff hrel e0 e1 e2 e4 e16 e17 e25
  have hsl : (Sl adata_0 data_0 cdata_0) = (Sl adata_0 (data_0.set a_1.toNat (x1.1, x1.2)) cdata_0) := sl_len (by simp)
  rw [hsl]; rw [hsl] at H; clear hsl
  obtain ⟨x21, hx22, h'⟩ := bind_some h
  clear h
  have h := h'; clear h'
  obtain ⟨b24, o25, hi23, -⟩ := (H.own 0 rfl).ix hx22
  refine st (v := (pt b24 o25)) (rv_ix Try.underlying27 ti64 rfl rfl hi23) ?_
  refine st_exS (ex_store_own (e' := (x8.1, x8.2)) (vs := [(I x8.1), (I x8.2)]) (k := 0) H (i := 0) rfl ti64 hx22 hi23 rfl rfl rfl rfl rfl (Nat.le_of_ble_eq_true rfl) (by simp [plain]) (by rintro _ ⟨_, _, rfl, rfl, rfl⟩; exact ⟨[(I x8.1)], [(I x8.2)], rfl, rfl, rfl⟩)) (wanted_none _ rfl _) ?_
  rintro σ26 ⟨H, -⟩
  have hsl : (Sl adata_0 (data_0.set a_1.toNat (x1.1, x1.2)) cdata_0) = (Sl adata_0 ((data_0.set a_1.toNat (x1.1, x1.2)).set pivot_3.toNat (x8.1, x8.2)) cdata_0) := sl_len List.length_set.symm
  rw [hsl]; rw [hsl] at H; clear hsl
  refine w_end ?_
  refine q_then ?_
  refine c_seq ?_
  refine rg ?_
  refine st (v := (I a_1)) (rv_move rfl) ?_
  refine st (v := (I (w64 (a_1 + 1)))) (rv_add (a := a_1) (b := 1) rfl rfl) ?_
  refine st (v := (I b_2)) (rv_move rfl) ?_
  refine st (v := (I (w64 (b_2 - 1)))) (rv_sub (a := b_2) (b := 1) rfl rfl) ?_
  refine st (v := (I (w64 (a_1 + 1)))) (rv_assign rfl) ?_
  refine st (v := (I (w64 (b_2 - 1)))) (rv_assign rfl) ?_
  refine w_end ?_
  refine q_then ?_
  refine c_seq ?_
  obtain ⟨o27, hj, h'⟩ := bind_some h
  clear h
  refine c_cut (fun e a w => e = .normal ∧ ∃ (ρ : Nat → Value) (σ : St), a = fr 178 (updL ρ [(0, (Sl adata_0 ((data_0.set a_1.toNat (x1.1, x1.2)).set pivot_3.toNat (x8.1, x8.2)) cdata_0)), (1, (I a_1)), (4, (.func (.func 101) #[] #[])), (12, (I o27)), (13, (I (w64 (b_2 - 1))))]) ∧ w = σ.w ∧ Hp S0 σ0 σ [Ch.own 0 0 (Sl adata_0 ((data_0.set a_1.toNat (x1.1, x1.2)).set pivot_3.toNat (x8.1, x8.2)) cdata_0) ((data_0.set a_1.toNat (x1.1, x1.2)).set pivot_3.toNat (x8.1, x8.2))]) ?_ ?_
  ·clear h'
   rename _ = some o27 => h
   refine c_blk ?_
   refine wp_loopM _ h (fun s28 a w => ∃ (ρ : Nat → Value) (σ : St), a = fr 178 (updL ρ [(0, (Sl adata_0 ((data_0.set a_1.toNat (x1.1, x1.2)).set pivot_3.toNat (x8.1, x8.2)) cdata_0)), (1, (I a_1)), (4, (.func (.func 101) #[] #[])), (12, (I s28)), (13, (I (w64 (b_2 - 1))))]) ∧ w = σ.w ∧ Hp S0 σ0 σ [Ch.own 0 0 (Sl adata_0 ((data_0.set a_1.toNat (x1.1, x1.2)).set pivot_3.toNat (x8.1, x8.2)) cdata_0) ((data_0.set a_1.toNat (x1.1, x1.2)).set pivot_3.toNat (x8.1, x8.2))]) ⟨_, σ26, fr_join ⟨rfl, rfl, rfl, rfl, rfl, trivial⟩, rfl, H.sel' [0] rfl rfl⟩ ?_
   clear h H
   rintro s28 a w o ⟨ρ, σ29, rfl, rfl, H⟩ h hres
   refine c_seq ?_
   refine c_seq ?_
   obtain ⟨o30, hj, h'⟩ := bind_some h
   clear h
   refine c_cut (fun e a w => e = .normal ∧ ∃ (ρ : Nat → Value) (σ : St), a = fr 178 (updL ρ [(0, (Sl adata_0 ((data_0.set a_1.toNat (x1.1, x1.2)).set pivot_3.toNat (x8.1, x8.2)) cdata_0)), (1, (I a_1)), (4, (.func (.func 101) #[] #[])), (12, (I s28)), (13, (I (w64 (b_2 - 1)))), (47, (B o30))]) ∧ w = σ.w ∧ Hp S0 σ0 σ [Ch.own 0 0 (Sl adata_0 ((data_0.set a_1.toNat (x1.1, x1.2)).set pivot_3.toNat (x8.1, x8.2)) cdata_0) ((data_0.set a_1.toNat (x1.1, x1.2)).set pivot_3.toNat (x8.1, x8.2))]) ?_ ?_
   ·clear h'
    rename _ = some o30 => h
    refine rgP (σ := σ29) 13 (by kernel_rfl) (by kernel_rfl) (by kernel_rfl) ?_
    refine sq (v := (I s28)) (rv_move rfl) ?_
    refine sq (v := (I (w64 (b_2 - 1)))) (rv_move rfl) ?_
    refine sq (v := (B (decide (s28 ≤ (w64 (b_2 - 1)))))) (rv_leq (a := s28) (b := (w64 (b_2 - 1))) rfl rfl) ?_
    refine sq (v := (B (decide (s28 ≤ (w64 (b_2 - 1)))))) (rv_move rfl) ?_
    rcases Bool.eq_false_or_eq_true (decide (s28 ≤ (w64 (b_2 - 1)))) with hb31 | hb31
    ·replace h := bif_t hb31 h
     refine sq_g (v := (.func (.func 101) #[] #[])) (congrArg some hb31) (rv_move rfl) ?_
     refine sq_g (v := (Sl adata_0 ((data_0.set a_1.toNat (x1.1, x1.2)).set pivot_3.toNat (x8.1, x8.2)) cdata_0)) (congrArg some hb31) (rv_move rfl) ?_
     refine sq_g (v := (I s28)) (congrArg some hb31) (rv_move rfl) ?_
     obtain ⟨x32, hx33, h'⟩ := bind_some h
     clear h
     have h := h'; clear h'
     obtain ⟨b35, o36, hi34, -⟩ := (H.own 0 rfl).ix hx33
     refine sq_g (v := (pt b35 o36)) (congrArg some hb31) (rv_ix Try.underlying27 ti64 rfl rfl hi34) ?_
     obtain ⟨_, ⟨_, _, rfl, rfl, rfl⟩, hl37, hc38⟩ := ((H.own 0 rfl).at hx33 hi34).cells
     refine sq_g (v := (.agg #[(I x32.1), (I x32.2)])) (congrArg some hb31) (rv_load Try.underlying64 rfl ti64 rfl hl37 hc38) ?_
     refine sq_g (v := (Sl adata_0 ((data_0.set a_1.toNat (x1.1, x1.2)).set pivot_3.toNat (x8.1, x8.2)) cdata_0)) (congrArg some hb31) (rv_move rfl) ?_
     refine sq_g (v := (I a_1)) (congrArg some hb31) (rv_move rfl) ?_
     obtain ⟨x39, hx40, h'⟩ := bind_some h
     clear h
     have h := h'; clear h'
     obtain ⟨b42, o43, hi41, -⟩ := (H.own 0 rfl).ix hx40
     refine sq_g (v := (pt b42 o43)) (congrArg some hb31) (rv_ix Try.underlying27 ti64 rfl rfl hi41) ?_
     obtain ⟨_, ⟨_, _, rfl, rfl, rfl⟩, hl44, hc45⟩ := ((H.own 0 rfl).at hx40 hi41).cells
     refine sq_g (v := (.agg #[(I x39.1), (I x39.2)])) (congrArg some hb31) (rv_load Try.underlying64 rfl ti64 rfl hl44 hc45) ?_
     refine sq_end ?_
     intro σ46 hm47
     replace H := H.grow (hm47.mono fun _ h => h); clear hm47
     obtain ⟨r48, hx49, h'⟩ := bind_some h
     clear h
     have h := h'; clear h'
     have hc50 := c_impl_compareHits hx49
     refine st_call (cx_call hc50 (ent_v (cap := []) hc50.fn rfl rfl) hn0 (show Hp S0 σ0 _ ([] ++ [Ch.own 0 0 (Sl adata_0 ((data_0.set a_1.toNat (x1.1, x1.2)).set pivot_3.toNat (x8.1, x8.2)) cdata_0) ((data_0.set a_1.toNat (x1.1, x1.2)).set pivot_3.toNat (x8.1, x8.2))]) from (H.sel' [0] rfl rfl))) (wanted_yes rfl (by exact (congrArg some hb31))) ?_
     rintro _ σ51 ⟨_, ⟨rfl, rfl⟩, H, -⟩
     replace H : Hp S0 σ0 σ51 [Ch.own 0 0 (Sl adata_0 ((data_0.set a_1.toNat (x1.1, x1.2)).set pivot_3.toNat (x8.1, x8.2)) cdata_0) ((data_0.set a_1.toNat (x1.1, x1.2)).set pivot_3.toNat (x8.1, x8.2))] := H
     refine st_g (v := (B (decide (r48 < 0)))) (congrArg some hb31) (rv_lss (a := r48) (b := 0) rfl rfl) ?_
     refine st (v := (B (decide (r48 < 0)))) (rv_pick_t (congrArg B hb31) rfl) ?_
     refine w_end ?_
     obtain rfl := Option.some.inj h
     exact ⟨rfl, _, σ51, fr_join ⟨rfl, rfl, rfl, rfl, rfl, rfl, trivial⟩, rfl, H.sel' [0] rfl rfl⟩
    ·replace h := bif_f hb31 h
     refine sq_skip (congrArg some hb31) ?_
     refine sq_skip (congrArg some hb31) ?_
     refine sq_skip (congrArg some hb31) ?_
     refine sq_skip (congrArg some hb31) ?_
     refine sq_skip (congrArg some hb31) ?_
     refine sq_skip (congrArg some hb31) ?_
     refine sq_skip (congrArg some hb31) ?_
     refine sq_skip (congrArg some hb31) ?_
     refine sq_skip (congrArg some hb31) ?_
     refine sq_end ?_
     intro σ52 hm53
     replace H := H.grow (hm53.mono fun _ h => h); clear hm53
     refine st_skip (congrArg some hb31) ?_
     refine st_skip (congrArg some hb31) ?_
     refine st (v := (B false)) (rv_pick_f (congrArg B hb31) rfl) ?_
     refine w_end ?_
     obtain rfl := Option.some.inj h
     exact ⟨rfl, _, σ52, fr_join ⟨rfl, rfl, rfl, rfl, rfl, rfl, trivial⟩, rfl, H.sel' [0] rfl rfl⟩
   ·clear hj
    have h := h'
    clear h' H
    rintro e a w ⟨rfl, ρ, σ54, rfl, rfl, H⟩
    refine q_then ?_
    refine cd_cond o30 rfl (fun hb55 => ?_) (fun hb55 => ?_)
    ·replace h := bif_t hb55 h
     refine c_skip ?_
     refine q_then ?_
     refine c_blk ?_
     refine rg ?_
     refine st (v := (I s28)) (rv_move rfl) ?_
     refine st (v := (I (w64 (s28 + 1)))) (rv_add (a := s28) (b := 1) rfl rfl) ?_
     refine st (v := (I (w64 (s28 + 1)))) (rv_assign rfl) ?_
     refine w_end ?_
     refine q_blk ?_
     refine q_then ?_
     obtain rfl := Option.some.inj h
     exact ⟨_, rfl, _, σ54, fr_join ⟨rfl, rfl, rfl, rfl, rfl, trivial⟩, rfl, H.sel' [0] rfl rfl⟩
    ·replace h := bif_f hb55 h
     refine c_exit ?_
     refine q_then_x ?_
     refine q_then_x ?_
     refine q_blk_hit ?_
     obtain rfl := Option.some.inj h
     obtain rfl := hres _ rfl
     exact ⟨rfl, _, σ54, fr_join ⟨rfl, rfl, rfl, rfl, rfl, trivial⟩, rfl, H.sel' [0] rfl rfl⟩
  ·clear hj
   have h := h'
   clear h' H
   rintro e a w ⟨rfl, ρ, σ56, rfl, rfl, H⟩
   refine q_then ?_
   refine c_seq ?_
   obtain ⟨o57, hj, h'⟩ := bind_some h
   clear h
   refine c_cut (fun e a w => e = .normal ∧ ∃ (ρ : Nat → Value) (σ : St), a = fr 178 (updL ρ [(0, (Sl adata_0 ((data_0.set a_1.toNat (x1.1, x1.2)).set pivot_3.toNat (x8.1, x8.2)) cdata_0)), (1, (I a_1)), (4, (.func (.func 101) #[] #[])), (12, (I o27)), (13, (I o57))]) ∧ w = σ.w ∧ Hp S0 σ0 σ [Ch.own 0 0 (Sl adata_0 ((data_0.set a_1.toNat (x1.1, x1.2)).set pivot_3.toNat (x8.1, x8.2)) cdata_0) ((data_0.set a_1.toNat (x1.1, x1.2)).set pivot_3.toNat (x8.1, x8.2))]) ?_ ?_
   ·clear h'
    rename _ = some o57 => h
    refine c_blk ?_
    refine wp_loopM _ h (fun s58 a w => ∃ (ρ : Nat → Value) (σ : St), a = fr 178 (updL ρ [(0, (Sl adata_0 ((data_0.set a_1.toNat (x1.1, x1.2)).set pivot_3.toNat (x8.1, x8.2)) cdata_0)), (1, (I a_1)), (4, (.func (.func 101) #[] #[])), (12, (I o27)), (13, (I s58))]) ∧ w = σ.w ∧ Hp S0 σ0 σ [Ch.own 0 0 (Sl adata_0 ((data_0.set a_1.toNat (x1.1, x1.2)).set pivot_3.toNat (x8.1, x8.2)) cdata_0) ((data_0.set a_1.toNat (x1.1, x1.2)).set pivot_3.toNat (x8.1, x8.2))]) ⟨_, σ56, fr_join ⟨rfl, rfl, rfl, rfl, rfl, trivial⟩, rfl, H.sel' [0] rfl rfl⟩ ?_
    clear h H
    rintro s58 a w o ⟨ρ, σ59, rfl, rfl, H⟩ h hres
    refine c_seq ?_
    refine c_seq ?_
    obtain ⟨o60, hj, h'⟩ := bind_some h
    clear h
    refine c_cut (fun e a w => e = .normal ∧ ∃ (ρ : Nat → Value) (σ : St), a = fr 178 (updL ρ [(0, (Sl adata_0 ((data_0.set a_1.toNat (x1.1, x1.2)).set pivot_3.toNat (x8.1, x8.2)) cdata_0)), (1, (I a_1)), (4, (.func (.func 101) #[] #[])), (12, (I o27)), (13, (I s58)), (66, (B o60))]) ∧ w = σ.w ∧ Hp S0 σ0 σ [Ch.own 0 0 (Sl adata_0 ((data_0.set a_1.toNat (x1.1, x1.2)).set pivot_3.toNat (x8.1, x8.2)) cdata_0) ((data_0.set a_1.toNat (x1.1, x1.2)).set pivot_3.toNat (x8.1, x8.2))]) ?_ ?_
    ·clear h'
     rename _ = some o60 => h
     refine rgP (σ := σ59) 13 (by kernel_rfl) (by kernel_rfl) (by kernel_rfl) ?_
     refine sq (v := (I o27)) (rv_move rfl) ?_
     refine sq (v := (I s58)) (rv_move rfl) ?_
     refine sq (v := (B (decide (o27 ≤ s58)))) (rv_leq (a := o27) (b := s58) rfl rfl) ?_
     refine sq (v := (B (decide (o27 ≤ s58)))) (rv_move rfl) ?_
     rcases Bool.eq_false_or_eq_true (decide (o27 ≤ s58)) with hb61 | hb61
     ·replace h := bif_t hb61 h
      refine sq_g (v := (.func (.func 101) #[] #[])) (congrArg some hb61) (rv_move rfl) ?_
      refine sq_g (v := (Sl adata_0 ((data_0.set a_1.toNat (x1.1, x1.2)).set pivot_3.toNat (x8.1, x8.2)) cdata_0)) (congrArg some hb61) (rv_move rfl) ?_
      refine sq_g (v := (I s58)) (congrArg some hb61) (rv_move rfl) ?_
      obtain ⟨x62, hx63, h'⟩ := bind_some h
      clear h
      have h := h'; clear h'
      obtain ⟨b65, o66, hi64, -⟩ := (H.own 0 rfl).ix hx63
      refine sq_g (v := (pt b65 o66)) (congrArg some hb61) (rv_ix Try.underlying27 ti64 rfl rfl hi64) ?_
      obtain ⟨_, ⟨_, _, rfl, rfl, rfl⟩, hl67, hc68⟩ := ((H.own 0 rfl).at hx63 hi64).cells
      refine sq_g (v := (.agg #[(I x62.1), (I x62.2)])) (congrArg some hb61) (rv_load Try.underlying64 rfl ti64 rfl hl67 hc68) ?_
      refine sq_g (v := (Sl adata_0 ((data_0.set a_1.toNat (x1.1, x1.2)).set pivot_3.toNat (x8.1, x8.2)) cdata_0)) (congrArg some hb61) (rv_move rfl) ?_
      refine sq_g (v := (I a_1)) (congrArg some hb61) (rv_move rfl) ?_
      obtain ⟨x69, hx70, h'⟩ := bind_some h
      clear h
      have h := h'; clear h'
      obtain ⟨b72, o73, hi71, -⟩ := (H.own 0 rfl).ix hx70
      refine sq_g (v := (pt b72 o73)) (congrArg some hb61) (rv_ix Try.underlying27 ti64 rfl rfl hi71) ?_
      obtain ⟨_, ⟨_, _, rfl, rfl, rfl⟩, hl74, hc75⟩ := ((H.own 0 rfl).at hx70 hi71).cells
      refine sq_g (v := (.agg #[(I x69.1), (I x69.2)])) (congrArg some hb61) (rv_load Try.underlying64 rfl ti64 rfl hl74 hc75) ?_
      refine sq_end ?_
      intro σ76 hm77
      replace H := H.grow (hm77.mono fun _ h => h); clear hm77
      obtain ⟨r78, hx79, h'⟩ := bind_some h
      clear h
      have h := h'; clear h'
      have hc80 := c_impl_compareHits hx79
      refine st_call (cx_call hc80 (ent_v (cap := []) hc80.fn rfl rfl) hn0 (show Hp S0 σ0 _ ([] ++ [Ch.own 0 0 (Sl adata_0 ((data_0.set a_1.toNat (x1.1, x1.2)).set pivot_3.toNat (x8.1, x8.2)) cdata_0) ((data_0.set a_1.toNat (x1.1, x1.2)).set pivot_3.toNat (x8.1, x8.2))]) from (H.sel' [0] rfl rfl))) (wanted_yes rfl (by exact (congrArg some hb61))) ?_
      rintro _ σ81 ⟨_, ⟨rfl, rfl⟩, H, -⟩
      replace H : Hp S0 σ0 σ81 [Ch.own 0 0 (Sl adata_0 ((data_0.set a_1.toNat (x1.1, x1.2)).set pivot_3.toNat (x8.1, x8.2)) cdata_0) ((data_0.set a_1.toNat (x1.1, x1.2)).set pivot_3.toNat (x8.1, x8.2))] := H
      refine st_g (v := (B (decide (r78 < 0)))) (congrArg some hb61) (rv_lss (a := r78) (b := 0) rfl rfl) ?_
      refine st_g (v := (B (!(decide (r78 < 0))))) (congrArg some hb61) (rv_not rfl) ?_
      refine st (v := (B (!(decide (r78 < 0))))) (rv_pick_t (congrArg B hb61) rfl) ?_
      refine w_end ?_
      obtain rfl := Option.some.inj h
      exact ⟨rfl, _, σ81, fr_join ⟨rfl, rfl, rfl, rfl, rfl, rfl, trivial⟩, rfl, H.sel' [0] rfl rfl⟩
     ·replace h := bif_f hb61 h
      refine sq_skip (congrArg some hb61) ?_
      refine sq_skip (congrArg some hb61) ?_
      refine sq_skip (congrArg some hb61) ?_
      refine sq_skip (congrArg some hb61) ?_
      refine sq_skip (congrArg some hb61) ?_
      refine sq_skip (congrArg some hb61) ?_
      refine sq_skip (congrArg some hb61) ?_
      refine sq_skip (congrArg some hb61) ?_
      refine sq_skip (congrArg some hb61) ?_
      refine sq_end ?_
      intro σ82 hm83
      replace H := H.grow (hm83.mono fun _ h => h); clear hm83
      refine st_skip (congrArg some hb61) ?_
      refine st_skip (congrArg some hb61) ?_
      refine st_skip (congrArg some hb61) ?_
      refine st (v := (B false)) (rv_pick_f (congrArg B hb61) rfl) ?_
      refine w_end ?_
      obtain rfl := Option.some.inj h
      exact ⟨rfl, _, σ82, fr_join ⟨rfl, rfl, rfl, rfl, rfl, rfl, trivial⟩, rfl, H.sel' [0] rfl rfl⟩
    ·clear hj
     have h := h'
     clear h' H
     rintro e a w ⟨rfl, ρ, σ84, rfl, rfl, H⟩
     refine q_then ?_
     refine cd_cond o60 rfl (fun hb85 => ?_) (fun hb85 => ?_)
     ·replace h := bif_t hb85 h
      refine c_skip ?_
      refine q_then ?_
      refine c_blk ?_
      refine rg ?_
      refine st (v := (I s58)) (rv_move rfl) ?_
      refine st (v := (I (w64 (s58 - 1)))) (rv_sub (a := s58) (b := 1) rfl rfl) ?_
      refine st (v := (I (w64 (s58 - 1)))) (rv_assign rfl) ?_
      refine w_end ?_
      refine q_blk ?_
      refine q_then ?_
      obtain rfl := Option.some.inj h
      exact ⟨_, rfl, _, σ84, fr_join ⟨rfl, rfl, rfl, rfl, rfl, trivial⟩, rfl, H.sel' [0] rfl rfl⟩
     ·replace h := bif_f hb85 h
      refine c_exit ?_
      refine q_then_x ?_
      refine q_then_x ?_
      refine q_blk_hit ?_
      obtain rfl := Option.some.inj h
      obtain rfl := hres _ rfl
      exact ⟨rfl, _, σ84, fr_join ⟨rfl, rfl, rfl, rfl, rfl, trivial⟩, rfl, H.sel' [0] rfl rfl⟩
   ·clear hj
    have h := h'
    clear h' H
    rintro e a w ⟨rfl, ρ, σ86, rfl, rfl, H⟩
    refine q_then ?_
    refine c_seq ?_
    refine c_seq ?_
    refine rg ?_
    refine st (v := (I o27)) (rv_move rfl) ?_
    refine st (v := (I o57)) (rv_move rfl) ?_
    refine st (v := (B (decide (o57 < o27)))) (rv_gtr (a := o27) (b := o57) rfl rfl) ?_
    refine w_end ?_
    refine q_then ?_
    refine cd_cond (decide (o57 < o27)) rfl (fun hb87 => ?_) (fun hb87 => ?_)
    ·replace h := bif_t hb87 h
     refine c_seq ?_
     obtain ⟨x88, hx89, h'⟩ := bind_some h
     clear h
     have h := h'; clear h'
     obtain ⟨b91, o92, hi90, -⟩ := (H.own 0 rfl).ix hx89
     obtain ⟨_, ⟨_, _, rfl, rfl, rfl⟩, hl93, hc94⟩ := ((H.own 0 rfl).at hx89 hi90).cells
     obtain ⟨x95, hx96, h'⟩ := bind_some h
     clear h
     have h := h'; clear h'
     obtain ⟨b98, o99, hi97, -⟩ := (H.own 0 rfl).ix hx96
     obtain ⟨_, ⟨_, _, rfl, rfl, rfl⟩, hl100, hc101⟩ := ((H.own 0 rfl).at hx96 hi97).cells
     obtain ⟨x102, hx103, h'⟩ := bind_some h
     clear h
     have h := h'; clear h'
     obtain ⟨b105, o106, hi104, -⟩ := (H.own 0 rfl).ix hx103
     have Hs := H
     refine rg2 (σ := σ86) (Nm := Unit) 14 [13] [[false], [true]] [[(0, 0)], [(0, 0)], [(0, 0), (1, 1)], [(0, 0), (1, 1)], [(0, 0)], [(0, 0)], [(0, 0)], [(0, 0)], [(0, 0)], [(0, 0)], [(0, 0)], [(0, 0)], [(0, 0)], [(0, 1)]] 1 [fun (_nm : Unit) => fun σm => Hp S0 σ0 σm [Ch.own 0 0 (Sl adata_0 ((data_0.set a_1.toNat (x1.1, x1.2)).set pivot_3.toNat (x8.1, x8.2)) cdata_0) ((data_0.set a_1.toNat (x1.1, x1.2)).set pivot_3.toNat (x8.1, x8.2))] ∧ Md (cov []) σ86 σm, fun (_nm : Unit) => fun σm => Hp S0 σ0 σm [Ch.own 0 0 (Sl adata_0 ((data_0.set a_1.toNat (x1.1, x1.2)).set pivot_3.toNat (x8.1, x8.2)) cdata_0) (((data_0.set a_1.toNat (x1.1, x1.2)).set pivot_3.toNat (x8.1, x8.2)).set o57.toNat (x88.1, x88.2))] ∧ Md (fun i => (cov []) i ∨ (fun b => blk (Sl adata_0 ((data_0.set a_1.toNat (x1.1, x1.2)).set pivot_3.toNat (x8.1, x8.2)) cdata_0) = some b) i) σ86 σm] [fun (_nm : Unit) => (Sl adata_0 ((data_0.set a_1.toNat (x1.1, x1.2)).set pivot_3.toNat (x8.1, x8.2)) cdata_0), fun (_nm : Unit) => (I o57), fun (_nm : Unit) => (Sl adata_0 ((data_0.set a_1.toNat (x1.1, x1.2)).set pivot_3.toNat (x8.1, x8.2)) cdata_0), fun (_nm : Unit) => (I a_1), fun (_nm : Unit) => (Sl adata_0 ((data_0.set a_1.toNat (x1.1, x1.2)).set pivot_3.toNat (x8.1, x8.2)) cdata_0), fun (_nm : Unit) => (I a_1), fun (_nm : Unit) => (pt b91 o92), fun (_nm : Unit) => (.agg #[(I x88.1), (I x88.2)]), fun (_nm : Unit) => (Sl adata_0 ((data_0.set a_1.toNat (x1.1, x1.2)).set pivot_3.toNat (x8.1, x8.2)) cdata_0), fun (_nm : Unit) => (I o57), fun (_nm : Unit) => (pt b98 o99), fun (_nm : Unit) => (.agg #[(I x95.1), (I x95.2)]), fun (_nm : Unit) => (pt b105 o106), fun (_nm : Unit) => undef] () (by kernel_rfl) (by kernel_rfl) ?_ ?_ ?_
     ·intro σm m0
      exact ⟨H.grow (m0.mono fun _ h => h.elim), m0⟩
     ·refine all_cons (obs_v rfl (by
        intro k; intro _nm ρ σm hJ hoff hdep
        have e0 : look 178 ρ 0 = (Sl adata_0 ((data_0.set a_1.toNat (x1.1, x1.2)).set pivot_3.toNat (x8.1, x8.2)) cdata_0) := look_off (hoff 0 rfl) rfl
        exact dp_v (v := (Sl adata_0 ((data_0.set a_1.toNat (x1.1, x1.2)).set pivot_3.toNat (x8.1, x8.2)) cdata_0)) (wanted_none _ rfl _) (rv_move e0) rfl hJ)) ?_
      refine all_cons (obs_v rfl (by
        intro k; intro _nm ρ σm hJ hoff hdep
        have e13 : look 178 ρ 13 = (I o57) := look_off (hoff 13 rfl) rfl
        exact dp_v (v := (I o57)) (wanted_none _ rfl _) (rv_move e13) rfl hJ)) ?_
      refine all_cons (obs_v rfl (by
        intro k; intro _nm ρ σm hJ hoff hdep
        have e0 : look 178 ρ 0 = (Sl adata_0 ((data_0.set a_1.toNat (x1.1, x1.2)).set pivot_3.toNat (x8.1, x8.2)) cdata_0) := look_off (hoff 0 rfl) rfl
        exact dp_v (v := (Sl adata_0 ((data_0.set a_1.toNat (x1.1, x1.2)).set pivot_3.toNat (x8.1, x8.2)) cdata_0)) (wanted_none _ rfl _) (rv_move e0) rfl hJ)) ?_
      refine all_cons (obs_v rfl (by
        intro k; intro _nm ρ σm hJ hoff hdep
        have e1 : look 178 ρ 1 = (I a_1) := look_off (hoff 1 rfl) rfl
        exact dp_v (v := (I a_1)) (wanted_none _ rfl _) (rv_move e1) rfl hJ)) ?_
      refine all_cons (obs_v rfl (by
        intro k; intro _nm ρ σm hJ hoff hdep
        have e0 : look 178 ρ 0 = (Sl adata_0 ((data_0.set a_1.toNat (x1.1, x1.2)).set pivot_3.toNat (x8.1, x8.2)) cdata_0) := look_off (hoff 0 rfl) rfl
        exact dp_v (v := (Sl adata_0 ((data_0.set a_1.toNat (x1.1, x1.2)).set pivot_3.toNat (x8.1, x8.2)) cdata_0)) (wanted_none _ rfl _) (rv_move e0) rfl hJ)) ?_
      refine all_cons (obs_v rfl (by
        intro k; intro _nm ρ σm hJ hoff hdep
        have e1 : look 178 ρ 1 = (I a_1) := look_off (hoff 1 rfl) rfl
        exact dp_v (v := (I a_1)) (wanted_none _ rfl _) (rv_move e1) rfl hJ)) ?_
      refine all_cons (obs_v rfl (by
        intro k; intro _nm ρ σm hJ hoff hdep
        have e76 : look 178 ρ 76 = (Sl adata_0 ((data_0.set a_1.toNat (x1.1, x1.2)).set pivot_3.toNat (x8.1, x8.2)) cdata_0) := hdep 4 rfl rfl 76 rfl
        have e77 : look 178 ρ 77 = (I a_1) := hdep 5 rfl rfl 77 rfl
        exact dp_v (v := (pt b91 o92)) (wanted_none _ rfl _) (rv_ix Try.underlying27 ti64 e76 e77 hi90) rfl hJ)) ?_
      refine all_cons (by
        refine ⟨?_, ?_⟩
        ·intro _nm ρ σm hJ hoff hdep
         have e78 : look 178 ρ 78 = (pt b91 o92) := hdep 6 rfl rfl 78 rfl
         obtain ⟨H, m⟩ := id hJ
         obtain ⟨_, ⟨_, _, rfl, rfl, rfl⟩, hl93, hc94⟩ := ((H.own 0 rfl).at hx89 hi90).cells
         exact dp_v (v := (.agg #[(I x88.1), (I x88.2)])) (wanted_none _ rfl _) (rv_load Try.underlying64 rfl ti64 e78 hl93 hc94) rfl hJ
        trivial) ?_
      refine all_cons (obs_v rfl (by
        intro k; intro _nm ρ σm hJ hoff hdep
        have e0 : look 178 ρ 0 = (Sl adata_0 ((data_0.set a_1.toNat (x1.1, x1.2)).set pivot_3.toNat (x8.1, x8.2)) cdata_0) := look_off (hoff 0 rfl) rfl
        exact dp_v (v := (Sl adata_0 ((data_0.set a_1.toNat (x1.1, x1.2)).set pivot_3.toNat (x8.1, x8.2)) cdata_0)) (wanted_none _ rfl _) (rv_move e0) rfl hJ)) ?_
      refine all_cons (obs_v rfl (by
        intro k; intro _nm ρ σm hJ hoff hdep
        have e13 : look 178 ρ 13 = (I o57) := look_off (hoff 13 rfl) rfl
        exact dp_v (v := (I o57)) (wanted_none _ rfl _) (rv_move e13) rfl hJ)) ?_
      refine all_cons (obs_v rfl (by
        intro k; intro _nm ρ σm hJ hoff hdep
        have e80 : look 178 ρ 80 = (Sl adata_0 ((data_0.set a_1.toNat (x1.1, x1.2)).set pivot_3.toNat (x8.1, x8.2)) cdata_0) := hdep 8 rfl rfl 80 rfl
        have e81 : look 178 ρ 81 = (I o57) := hdep 9 rfl rfl 81 rfl
        exact dp_v (v := (pt b98 o99)) (wanted_none _ rfl _) (rv_ix Try.underlying27 ti64 e80 e81 hi97) rfl hJ)) ?_
      refine all_cons (by
        refine ⟨?_, ?_⟩
        ·intro _nm ρ σm hJ hoff hdep
         have e82 : look 178 ρ 82 = (pt b98 o99) := hdep 10 rfl rfl 82 rfl
         obtain ⟨H, m⟩ := id hJ
         obtain ⟨_, ⟨_, _, rfl, rfl, rfl⟩, hl100, hc101⟩ := ((H.own 0 rfl).at hx96 hi97).cells
         exact dp_v (v := (.agg #[(I x95.1), (I x95.2)])) (wanted_none _ rfl _) (rv_load Try.underlying64 rfl ti64 e82 hl100 hc101) rfl hJ
        trivial) ?_
      refine all_cons (obs_v rfl (by
        intro k; intro _nm ρ σm hJ hoff hdep
        have e72 : look 178 ρ 72 = (Sl adata_0 ((data_0.set a_1.toNat (x1.1, x1.2)).set pivot_3.toNat (x8.1, x8.2)) cdata_0) := hdep 0 rfl rfl 72 rfl
        have e73 : look 178 ρ 73 = (I o57) := hdep 1 rfl rfl 73 rfl
        exact dp_v (v := (pt b105 o106)) (wanted_none _ rfl _) (rv_ix Try.underlying27 ti64 e72 e73 hi104) rfl hJ)) ?_
      refine all_cons (by
        refine ⟨?_, ?_⟩
        ·intro _nm ρ σm hJ hoff hdep
         have e84 : look 178 ρ 84 = (pt b105 o106) := hdep 12 rfl rfl 84 rfl
         have e79 : look 178 ρ 79 = (.agg #[(I x88.1), (I x88.2)]) := hdep 7 rfl rfl 79 rfl
         obtain ⟨H, m⟩ := id hJ
         refine dp_exS (wanted_none _ rfl _) rfl (ex_store_own (e' := (x88.1, x88.2)) (vs := [(I x88.1), (I x88.2)]) (k := 0) H (i := 0) rfl ti64 hx103 hi104 e84 rfl e79 rfl rfl (Nat.le_of_ble_eq_true rfl) (by simp [plain]) (by rintro _ ⟨_, _, rfl, rfl, rfl⟩; exact ⟨[(I x88.1)], [(I x88.2)], rfl, rfl, rfl⟩)) ?_
         rintro σq ⟨H2, m2⟩
         exact ⟨_, (), rfl, ⟨H2.sel' [0] rfl rfl, m.comp m2⟩, stab [0, 1, 2, 3, 4, 5, 6, 7, 8, 9, 10, 11, 12] (by kernel_rfl) ⟨rfl, rfl, rfl, rfl, rfl, rfl, rfl, rfl, rfl, rfl, rfl, rfl, rfl, trivial⟩⟩
        trivial) ?_
      exact all_nil
     ·intro _nm ρ σ107 hJ hoff hrel
      have e0 : look 178 ρ 0 = (Sl adata_0 ((data_0.set a_1.toNat (x1.1, x1.2)).set pivot_3.toNat (x8.1, x8.2)) cdata_0) := look_off (hoff 0 rfl) rfl
      have e13 : look 178 ρ 13 = (I o57) := look_off (hoff 13 rfl) rfl
      have e74 : look 178 ρ 74 = (Sl adata_0 ((data_0.set a_1.toNat (x1.1, x1.2)).set pivot_3.toNat (x8.1, x8.2)) cdata_0) := hrel 2 rfl 74 rfl
      have e75 : look 178 ρ 75 = (I a_1) := hrel 3 rfl 75 rfl
      have e83 : look 178 ρ 83 = (.agg #[(I x95.1), (I x95.2)]) := hrel 11 rfl 83 rfl
      obtain ⟨H, -⟩ := (show Hp S0 σ0 σ107 [Ch.own 0 0 (Sl adata_0 ((data_0.set a_1.toNat (x1.1, x1.2)).set pivot_3.toNat (x8.1, x8.2)) cdata_0) (((data_0.set a_1.toNat (x1.1, x1.2)).set pivot_3.toNat (x8.1, x8.2)).set o57.toNat (x88.1, x88.2))] ∧ Md (fun i => (cov []) i ∨ (fun b => blk (Sl adata_0 ((data_0.set a_1.toNat (x1.1, x1.2)).set pivot_3.toNat (x8.1, x8.2)) cdata_0) = some b) i) σ86 σ107 from hJ)
      clear hJ Hs
      rw [fr_lookL (L := [(0, (Sl adata_0 ((data_0.set a_1.toNat (x1.1, x1.2)).set pivot_3.toNat (x8.1, x8.2)) cdata_0)), (13, (I o57)), (74, (Sl adata_0 ((data_0.set a_1.toNat (x1.1, x1.2)).set pivot_3.toNat (x8.1, x8.2)) cdata_0)), (75, (I a_1)), (83, (.agg #[(I x95.1), (I x95.2)]))]) ⟨e0, e13, e74, e75, e83, trivial⟩]
      clear hoff hrel e0 e13 e74 e75 e83
      have hsl : (Sl adata_0 ((data_0.set a_1.toNat (x1.1, x1.2)).set pivot_3.toNat (x8.1, x8.2)) cdata_0) = (Sl adata_0 (((data_0.set a_1.toNat (x1.1, x1.2)).set pivot_3.toNat (x8.1, x8.2)).set o57.toNat (x88.1, x88.2)) cdata_0) := sl_len (by simp)
      rw [hsl]; rw [hsl] at H; clear hsl
      obtain ⟨x108, hx109, h'⟩ := bind_some h
      clear h
      have h := h'; clear h'
      obtain ⟨b111, o112, hi110, -⟩ := (H.own 0 rfl).ix hx109
      refine st (v := (pt b111 o112)) (rv_ix Try.underlying27 ti64 rfl rfl hi110) ?_
      refine st_exS (ex_store_own (e' := (x95.1, x95.2)) (vs := [(I x95.1), (I x95.2)]) (k := 0) H (i := 0) rfl ti64 hx109 hi110 rfl rfl rfl rfl rfl (Nat.le_of_ble_eq_true rfl) (by simp [plain]) (by rintro _ ⟨_, _, rfl, rfl, rfl⟩; exact ⟨[(I x95.1)], [(I x95.2)], rfl, rfl, rfl⟩)) (wanted_none _ rfl _) ?_
      rintro σ113 ⟨H, -⟩
      have hsl : (Sl adata_0 (((data_0.set a_1.toNat (x1.1, x1.2)).set pivot_3.toNat (x8.1, x8.2)).set o57.toNat (x88.1, x88.2)) cdata_0) = (Sl adata_0 ((((data_0.set a_1.toNat (x1.1, x1.2)).set pivot_3.toNat (x8.1, x8.2)).set o57.toNat (x88.1, x88.2)).set a_1.toNat (x95.1, x95.2)) cdata_0) := sl_len List.length_set.symm
      rw [hsl]; rw [hsl] at H; clear hsl
      refine w_end ?_
      refine q_then ?_
      refine c_seq ?_
      refine rg ?_
      refine st (v := (I o57)) (rv_move rfl) ?_
      refine st (v := (I o57)) (rv_assign rfl) ?_
      refine st (v := (B true)) (rv_assign rfl) ?_
      refine w_end ?_
      refine q_then ?_
      refine c_ret ?_
      refine q_then_r ?_
      obtain rfl := Option.some.inj h
      exact fin_ret (v := (.tuple #[(I o57), (B true)])) (results_ok Try.results150 (res_tmp (v := (I o57)) rfl (res_tmp (v := (B true)) rfl res_nil)) rfl) ⟨rfl, rfl, (List.length_set.trans (List.length_set.trans (List.length_set.trans List.length_set)))⟩ (H.sel' [0] rfl rfl)
    ·replace h := bif_f hb87 h
     refine c_skip ?_
     refine q_then ?_
     refine c_seq ?_
     obtain ⟨x114, hx115, h'⟩ := bind_some h
     clear h
     have h := h'; clear h'
     obtain ⟨b117, o118, hi116, -⟩ := (H.own 0 rfl).ix hx115
     obtain ⟨_, ⟨_, _, rfl, rfl, rfl⟩, hl119, hc120⟩ := ((H.own 0 rfl).at hx115 hi116).cells
     obtain ⟨x121, hx122, h'⟩ := bind_some h
     clear h
     have h := h'; clear h'
     obtain ⟨b124, o125, hi123, -⟩ := (H.own 0 rfl).ix hx122
     obtain ⟨_, ⟨_, _, rfl, rfl, rfl⟩, hl126, hc127⟩ := ((H.own 0 rfl).at hx122 hi123).cells
     obtain ⟨x128, hx129, h'⟩ := bind_some h
     clear h
     have h := h'; clear h'
     obtain ⟨b131, o132, hi130, -⟩ := (H.own 0 rfl).ix hx129
     have Hs := H
     refine rg2 (σ := σ86) (Nm := Unit) 14 [13] [[false], [true]] [[(0, 0)], [(0, 0)], [(0, 0), (1, 1)], [(0, 0), (1, 1)], [(0, 0)], [(0, 0)], [(0, 0)], [(0, 0)], [(0, 0)], [(0, 0)], [(0, 0)], [(0, 0)], [(0, 0)], [(0, 1)]] 1 [fun (_nm : Unit) => fun σm => Hp S0 σ0 σm [Ch.own 0 0 (Sl adata_0 ((data_0.set a_1.toNat (x1.1, x1.2)).set pivot_3.toNat (x8.1, x8.2)) cdata_0) ((data_0.set a_1.toNat (x1.1, x1.2)).set pivot_3.toNat (x8.1, x8.2))] ∧ Md (cov []) σ86 σm, fun (_nm : Unit) => fun σm => Hp S0 σ0 σm [Ch.own 0 0 (Sl adata_0 ((data_0.set a_1.toNat (x1.1, x1.2)).set pivot_3.toNat (x8.1, x8.2)) cdata_0) (((data_0.set a_1.toNat (x1.1, x1.2)).set pivot_3.toNat (x8.1, x8.2)).set o27.toNat (x114.1, x114.2))] ∧ Md (fun i => (cov []) i ∨ (fun b => blk (Sl adata_0 ((data_0.set a_1.toNat (x1.1, x1.2)).set pivot_3.toNat (x8.1, x8.2)) cdata_0) = some b) i) σ86 σm] [fun (_nm : Unit) => (Sl adata_0 ((data_0.set a_1.toNat (x1.1, x1.2)).set pivot_3.toNat (x8.1, x8.2)) cdata_0), fun (_nm : Unit) => (I o27), fun (_nm : Unit) => (Sl adata_0 ((data_0.set a_1.toNat (x1.1, x1.2)).set pivot_3.toNat (x8.1, x8.2)) cdata_0), fun (_nm : Unit) => (I o57), fun (_nm : Unit) => (Sl adata_0 ((data_0.set a_1.toNat (x1.1, x1.2)).set pivot_3.toNat (x8.1, x8.2)) cdata_0), fun (_nm : Unit) => (I o57), fun (_nm : Unit) => (pt b117 o118), fun (_nm : Unit) => (.agg #[(I x114.1), (I x114.2)]), fun (_nm : Unit) => (Sl adata_0 ((data_0.set a_1.toNat (x1.1, x1.2)).set pivot_3.toNat (x8.1, x8.2)) cdata_0), fun (_nm : Unit) => (I o27), fun (_nm : Unit) => (pt b124 o125), fun (_nm : Unit) => (.agg #[(I x121.1), (I x121.2)]), fun (_nm : Unit) => (pt b131 o132), fun (_nm : Unit) => undef] () (by kernel_rfl) (by kernel_rfl) ?_ ?_ ?_
     ·intro σm m0
      exact ⟨H.grow (m0.mono fun _ h => h.elim), m0⟩
     ·refine all_cons (obs_v rfl (by
        intro k; intro _nm ρ σm hJ hoff hdep
        have e0 : look 178 ρ 0 = (Sl adata_0 ((data_0.set a_1.toNat (x1.1, x1.2)).set pivot_3.toNat (x8.1, x8.2)) cdata_0) := look_off (hoff 0 rfl) rfl
        exact dp_v (v := (Sl adata_0 ((data_0.set a_1.toNat (x1.1, x1.2)).set pivot_3.toNat (x8.1, x8.2)) cdata_0)) (wanted_none _ rfl _) (rv_move e0) rfl hJ)) ?_
      refine all_cons (obs_v rfl (by
        intro k; intro _nm ρ σm hJ hoff hdep
        have e12 : look 178 ρ 12 = (I o27) := look_off (hoff 12 rfl) rfl
        exact dp_v (v := (I o27)) (wanted_none _ rfl _) (rv_move e12) rfl hJ)) ?_
      refine all_cons (obs_v rfl (by
        intro k; intro _nm ρ σm hJ hoff hdep
        have e0 : look 178 ρ 0 = (Sl adata_0 ((data_0.set a_1.toNat (x1.1, x1.2)).set pivot_3.toNat (x8.1, x8.2)) cdata_0) := look_off (hoff 0 rfl) rfl
        exact dp_v (v := (Sl adata_0 ((data_0.set a_1.toNat (x1.1, x1.2)).set pivot_3.toNat (x8.1, x8.2)) cdata_0)) (wanted_none _ rfl _) (rv_move e0) rfl hJ)) ?_
      refine all_cons (obs_v rfl (by
        intro k; intro _nm ρ σm hJ hoff hdep
        have e13 : look 178 ρ 13 = (I o57) := look_off (hoff 13 rfl) rfl
        exact dp_v (v := (I o57)) (wanted_none _ rfl _) (rv_move e13) rfl hJ)) ?_
      refine all_cons (obs_v rfl (by
        intro k; intro _nm ρ σm hJ hoff hdep
        have e0 : look 178 ρ 0 = (Sl adata_0 ((data_0.set a_1.toNat (x1.1, x1.2)).set pivot_3.toNat (x8.1, x8.2)) cdata_0) := look_off (hoff 0 rfl) rfl
        exact dp_v (v := (Sl adata_0 ((data_0.set a_1.toNat (x1.1, x1.2)).set pivot_3.toNat (x8.1, x8.2)) cdata_0)) (wanted_none _ rfl _) (rv_move e0) rfl hJ)) ?_
      refine all_cons (obs_v rfl (by
        intro k; intro _nm ρ σm hJ hoff hdep
        have e13 : look 178 ρ 13 = (I o57) := look_off (hoff 13 rfl) rfl
        exact dp_v (v := (I o57)) (wanted_none _ rfl _) (rv_move e13) rfl hJ)) ?_
      refine all_cons (obs_v rfl (by
        intro k; intro _nm ρ σm hJ hoff hdep
        have e91 : look 178 ρ 91 = (Sl adata_0 ((data_0.set a_1.toNat (x1.1, x1.2)).set pivot_3.toNat (x8.1, x8.2)) cdata_0) := hdep 4 rfl rfl 91 rfl
        have e92 : look 178 ρ 92 = (I o57) := hdep 5 rfl rfl 92 rfl
        exact dp_v (v := (pt b117 o118)) (wanted_none _ rfl _) (rv_ix Try.underlying27 ti64 e91 e92 hi116) rfl hJ)) ?_
      refine all_cons (by
        refine ⟨?_, ?_⟩
        ·intro _nm ρ σm hJ hoff hdep
         have e93 : look 178 ρ 93 = (pt b117 o118) := hdep 6 rfl rfl 93 rfl
         obtain ⟨H, m⟩ := id hJ
         obtain ⟨_, ⟨_, _, rfl, rfl, rfl⟩, hl119, hc120⟩ := ((H.own 0 rfl).at hx115 hi116).cells
         exact dp_v (v := (.agg #[(I x114.1), (I x114.2)])) (wanted_none _ rfl _) (rv_load Try.underlying64 rfl ti64 e93 hl119 hc120) rfl hJ
        trivial) ?_
      refine all_cons (obs_v rfl (by
        intro k; intro _nm ρ σm hJ hoff hdep
        have e0 : look 178 ρ 0 = (Sl adata_0 ((data_0.set a_1.toNat (x1.1, x1.2)).set pivot_3.toNat (x8.1, x8.2)) cdata_0) := look_off (hoff 0 rfl) rfl
        exact dp_v (v := (Sl adata_0 ((data_0.set a_1.toNat (x1.1, x1.2)).set pivot_3.toNat (x8.1, x8.2)) cdata_0)) (wanted_none _ rfl _) (rv_move e0) rfl hJ)) ?_
      refine all_cons (obs_v rfl (by
        intro k; intro _nm ρ σm hJ hoff hdep
        have e12 : look 178 ρ 12 = (I o27) := look_off (hoff 12 rfl) rfl
        exact dp_v (v := (I o27)) (wanted_none _ rfl _) (rv_move e12) rfl hJ)) ?_
      refine all_cons (obs_v rfl (by
        intro k; intro _nm ρ σm hJ hoff hdep
        have e95 : look 178 ρ 95 = (Sl adata_0 ((data_0.set a_1.toNat (x1.1, x1.2)).set pivot_3.toNat (x8.1, x8.2)) cdata_0) := hdep 8 rfl rfl 95 rfl
        have e96 : look 178 ρ 96 = (I o27) := hdep 9 rfl rfl 96 rfl
        exact dp_v (v := (pt b124 o125)) (wanted_none _ rfl _) (rv_ix Try.underlying27 ti64 e95 e96 hi123) rfl hJ)) ?_
      refine all_cons (by
        refine ⟨?_, ?_⟩
        ·intro _nm ρ σm hJ hoff hdep
         have e97 : look 178 ρ 97 = (pt b124 o125) := hdep 10 rfl rfl 97 rfl
         obtain ⟨H, m⟩ := id hJ
         obtain ⟨_, ⟨_, _, rfl, rfl, rfl⟩, hl126, hc127⟩ := ((H.own 0 rfl).at hx122 hi123).cells
         exact dp_v (v := (.agg #[(I x121.1), (I x121.2)])) (wanted_none _ rfl _) (rv_load Try.underlying64 rfl ti64 e97 hl126 hc127) rfl hJ
        trivial) ?_
      refine all_cons (obs_v rfl (by
        intro k; intro _nm ρ σm hJ hoff hdep
        have e87 : look 178 ρ 87 = (Sl adata_0 ((data_0.set a_1.toNat (x1.1, x1.2)).set pivot_3.toNat (x8.1, x8.2)) cdata_0) := hdep 0 rfl rfl 87 rfl
        have e88 : look 178 ρ 88 = (I o27) := hdep 1 rfl rfl 88 rfl
        exact dp_v (v := (pt b131 o132)) (wanted_none _ rfl _) (rv_ix Try.underlying27 ti64 e87 e88 hi130) rfl hJ)) ?_
      refine all_cons (by
        refine ⟨?_, ?_⟩
        ·intro _nm ρ σm hJ hoff hdep
         have e99 : look 178 ρ 99 = (pt b131 o132) := hdep 12 rfl rfl 99 rfl
         have e94 : look 178 ρ 94 = (.agg #[(I x114.1), (I x114.2)]) := hdep 7 rfl rfl 94 rfl
         obtain ⟨H, m⟩ := id hJ
         refine dp_exS (wanted_none _ rfl _) rfl (ex_store_own (e' := (x114.1, x114.2)) (vs := [(I x114.1), (I x114.2)]) (k := 0) H (i := 0) rfl ti64 hx129 hi130 e99 rfl e94 rfl rfl (Nat.le_of_ble_eq_true rfl) (by simp [plain]) (by rintro _ ⟨_, _, rfl, rfl, rfl⟩; exact ⟨[(I x114.1)], [(I x114.2)], rfl, rfl, rfl⟩)) ?_
         rintro σq ⟨H2, m2⟩
         exact ⟨_, (), rfl, ⟨H2.sel' [0] rfl rfl, m.comp m2⟩, stab [0, 1, 2, 3, 4, 5, 6, 7, 8, 9, 10, 11, 12] (by kernel_rfl) ⟨rfl, rfl, rfl, rfl, rfl, rfl, rfl, rfl, rfl, rfl, rfl, rfl, rfl, trivial⟩⟩
        trivial) ?_
      exact all_nil
     ·intro _nm ρ σ133 hJ hoff hrel
      have e0 : look 178 ρ 0 = (Sl adata_0 ((data_0.set a_1.toNat (x1.1, x1.2)).set pivot_3.toNat (x8.1, x8.2)) cdata_0) := look_off (hoff 0 rfl) rfl
      have e1 : look 178 ρ 1 = (I a_1) := look_off (hoff 1 rfl) rfl
      have e4 : look 178 ρ 4 = (.func (.func 101) #[] #[]) := look_off (hoff 4 rfl) rfl
      have e12 : look 178 ρ 12 = (I o27) := look_off (hoff 12 rfl) rfl
      have e13 : look 178 ρ 13 = (I o57) := look_off (hoff 13 rfl) rfl
      have e89 : look 178 ρ 89 = (Sl adata_0 ((data_0.set a_1.toNat (x1.1, x1.2)).set pivot_3.toNat (x8.1, x8.2)) cdata_0) := hrel 2 rfl 89 rfl
      have e90 : look 178 ρ 90 = (I o57) := hrel 3 rfl 90 rfl
      have e98 : look 178 ρ 98 = (.agg #[(I x121.1), (I x121.2)]) := hrel 11 rfl 98 rfl
      obtain ⟨H, -⟩ := (show Hp S0 σ0 σ133 [Ch.own 0 0 (Sl adata_0 ((data_0.set a_1.toNat (x1.1, x1.2)).set pivot_3.toNat (x8.1, x8.2)) cdata_0) (((data_0.set a_1.toNat (x1.1, x1.2)).set pivot_3.toNat (x8.1, x8.2)).set o27.toNat (x114.1, x114.2))] ∧ Md (fun i => (cov []) i ∨ (fun b => blk (Sl adata_0 ((data_0.set a_1.toNat (x1.1, x1.2)).set pivot_3.toNat (x8.1, x8.2)) cdata_0) = some b) i) σ86 σ133 from hJ)
      clear hJ Hs
      rw [fr_lookL (L := [(0, (Sl adata_0 ((data_0.set a_1.toNat (x1.1, x1.2)).set pivot_3.toNat (x8.1, x8.2)) cdata_0)), (1, (I a_1)), (4, (.func (.func 101) #[] #[])), (12, (I o27)), (13, (I o57)), (89, (Sl adata_0 ((data_0.set a_1.toNat (x1.1, x1.2)).set pivot_3.toNat (x8.1, x8.2)) cdata_0)), (90, (I o57)), (98, (.agg #[(I x121.1), (I x121.2)]))]) ⟨e0, e1, e4, e12, e13, e89, e90, e98, trivial⟩]
      clear hoff hrel e0 e1 e4 e12 e13 e89 e90 e98
      have hsl : (Sl adata_0 ((data_0.set a_1.toNat (x1.1, x1.2)).set pivot_3.toNat (x8.1, x8.2)) cdata_0) = (Sl adata_0 (((data_0.set a_1.toNat (x1.1, x1.2)).set pivot_3.toNat (x8.1, x8.2)).set o27.toNat (x114.1, x114.2)) cdata_0) := sl_len (by simp)
      rw [hsl]; rw [hsl] at H; clear hsl
      obtain ⟨x134, hx135, h'⟩ := bind_some h
      clear h
      have h := h'; clear h'
      obtain ⟨b137, o138, hi136, -⟩ := (H.own 0 rfl).ix hx135
      refine st (v := (pt b137 o138)) (rv_ix Try.underlying27 ti64 rfl rfl hi136) ?_
      refine st_exS (ex_store_own (e' := (x121.1, x121.2)) (vs := [(I x121.1), (I x121.2)]) (k := 0) H (i := 0) rfl ti64 hx135 hi136 rfl rfl rfl rfl rfl (Nat.le_of_ble_eq_true rfl) (by simp [plain]) (by rintro _ ⟨_, _, rfl, rfl, rfl⟩; exact ⟨[(I x121.1)], [(I x121.2)], rfl, rfl, rfl⟩)) (wanted_none _ rfl _) ?_
      rintro σ139 ⟨H, -⟩
      have hsl : (Sl adata_0 (((data_0.set a_1.toNat (x1.1, x1.2)).set pivot_3.toNat (x8.1, x8.2)).set o27.toNat (x114.1, x114.2)) cdata_0) = (Sl adata_0 ((((data_0.set a_1.toNat (x1.1, x1.2)).set pivot_3.toNat (x8.1, x8.2)).set o27.toNat (x114.1, x114.2)).set o57.toNat (x121.1, x121.2)) cdata_0) := sl_len List.length_set.symm
      rw [hsl]; rw [hsl] at H; clear hsl
      refine w_end ?_
      refine q_then ?_
      refine c_seq ?_
      refine rg ?_
      refine st (v := (I o27)) (rv_move rfl) ?_
      refine st (v := (I (w64 (o27 + 1)))) (rv_add (a := o27) (b := 1) rfl rfl) ?_
      refine st (v := (I (w64 (o27 + 1)))) (rv_assign rfl) ?_
      refine w_end ?_
      refine q_then ?_
      refine c_seq ?_
      refine rg ?_
      refine st (v := (I o57)) (rv_move rfl) ?_
      refine st (v := (I (w64 (o57 - 1)))) (rv_sub (a := o57) (b := 1) rfl rfl) ?_
      refine st (v := (I (w64 (o57 - 1)))) (rv_assign rfl) ?_
      refine w_end ?_
      refine q_then ?_
      refine c_seq ?_
      obtain ⟨o140, hj, h'⟩ := bind_some h
      clear h
      refine c_cut (fun e a w => e = .normal ∧ ∃ (ρ : Nat → Value) (σ : St), a = fr 178 (updL ρ [(0, (Sl adata_0 o140.1 cdata_0)), (1, (I a_1)), (13, (I o140.2))]) ∧ w = σ.w ∧ Hp S0 σ0 σ [Ch.own 0 0 (Sl adata_0 o140.1 cdata_0) o140.1] ∧ o140.1.length = ((((data_0.set a_1.toNat (x1.1, x1.2)).set pivot_3.toNat (x8.1, x8.2)).set o27.toNat (x114.1, x114.2)).set o57.toNat (x121.1, x121.2)).length) ?_ ?_
      ·clear h'
       rename _ = some o140 => h
       refine c_blk ?_
       refine wp_loopM _ h (fun s141 a w => ∃ (ρ : Nat → Value) (σ : St), a = fr 178 (updL ρ [(0, (Sl adata_0 s141.1 cdata_0)), (1, (I a_1)), (4, (.func (.func 101) #[] #[])), (12, (I s141.2.1)), (13, (I s141.2.2))]) ∧ w = σ.w ∧ Hp S0 σ0 σ [Ch.own 0 0 (Sl adata_0 s141.1 cdata_0) s141.1] ∧ s141.1.length = ((((data_0.set a_1.toNat (x1.1, x1.2)).set pivot_3.toNat (x8.1, x8.2)).set o27.toNat (x114.1, x114.2)).set o57.toNat (x121.1, x121.2)).length) ⟨_, σ139, fr_join ⟨rfl, rfl, rfl, rfl, rfl, trivial⟩, rfl, H.sel' [0] rfl rfl, rfl⟩ ?_
       clear h H
       rintro s141 a w o ⟨ρ, σ142, rfl, rfl, H, hn143⟩ h hres
       refine c_blk ?_
       refine c_seq ?_
       obtain ⟨o144, hj, h'⟩ := bind_some h
       clear h
       refine c_cut (fun e a w => e = .normal ∧ ∃ (ρ : Nat → Value) (σ : St), a = fr 178 (updL ρ [(0, (Sl adata_0 s141.1 cdata_0)), (1, (I a_1)), (4, (.func (.func 101) #[] #[])), (12, (I o144)), (13, (I s141.2.2))]) ∧ w = σ.w ∧ Hp S0 σ0 σ [Ch.own 0 0 (Sl adata_0 s141.1 cdata_0) s141.1]) ?_ ?_
       ·clear h'
        rename _ = some o144 => h
        refine c_blk ?_
        refine wp_loopM _ h (fun s145 a w => ∃ (ρ : Nat → Value) (σ : St), a = fr 178 (updL ρ [(0, (Sl adata_0 s141.1 cdata_0)), (1, (I a_1)), (4, (.func (.func 101) #[] #[])), (12, (I s145)), (13, (I s141.2.2))]) ∧ w = σ.w ∧ Hp S0 σ0 σ [Ch.own 0 0 (Sl adata_0 s141.1 cdata_0) s141.1]) ⟨_, σ142, fr_join ⟨rfl, rfl, rfl, rfl, rfl, trivial⟩, rfl, H.sel' [0] rfl rfl⟩ ?_
        clear h H
        rintro s145 a w o ⟨ρ, σ146, rfl, rfl, H⟩ h hres
        refine c_seq ?_
        refine c_seq ?_
        obtain ⟨o147, hj, h'⟩ := bind_some h
        clear h
        refine c_cut (fun e a w => e = .normal ∧ ∃ (ρ : Nat → Value) (σ : St), a = fr 178 (updL ρ [(0, (Sl adata_0 s141.1 cdata_0)), (1, (I a_1)), (4, (.func (.func 101) #[] #[])), (12, (I s145)), (13, (I s141.2.2)), (120, (B o147))]) ∧ w = σ.w ∧ Hp S0 σ0 σ [Ch.own 0 0 (Sl adata_0 s141.1 cdata_0) s141.1]) ?_ ?_
        ·clear h'
         rename _ = some o147 => h
         refine rgP (σ := σ146) 13 (by kernel_rfl) (by kernel_rfl) (by kernel_rfl) ?_
         refine sq (v := (I s145)) (rv_move rfl) ?_
         refine sq (v := (I s141.2.2)) (rv_move rfl) ?_
         refine sq (v := (B (decide (s145 ≤ s141.2.2)))) (rv_leq (a := s145) (b := s141.2.2) rfl rfl) ?_
         refine sq (v := (B (decide (s145 ≤ s141.2.2)))) (rv_move rfl) ?_
         rcases Bool.eq_false_or_eq_true (decide (s145 ≤ s141.2.2)) with hb148 | hb148
         ·replace h := bif_t hb148 h
          refine sq_g (v := (.func (.func 101) #[] #[])) (congrArg some hb148) (rv_move rfl) ?_
          refine sq_g (v := (Sl adata_0 s141.1 cdata_0)) (congrArg some hb148) (rv_move rfl) ?_
          refine sq_g (v := (I s145)) (congrArg some hb148) (rv_move rfl) ?_
          obtain ⟨x149, hx150, h'⟩ := bind_some h
          clear h
          have h := h'; clear h'
          obtain ⟨b152, o153, hi151, -⟩ := (H.own 0 rfl).ix hx150
          refine sq_g (v := (pt b152 o153)) (congrArg some hb148) (rv_ix Try.underlying27 ti64 rfl rfl hi151) ?_
          obtain ⟨_, ⟨_, _, rfl, rfl, rfl⟩, hl154, hc155⟩ := ((H.own 0 rfl).at hx150 hi151).cells
          refine sq_g (v := (.agg #[(I x149.1), (I x149.2)])) (congrArg some hb148) (rv_load Try.underlying64 rfl ti64 rfl hl154 hc155) ?_
          refine sq_g (v := (Sl adata_0 s141.1 cdata_0)) (congrArg some hb148) (rv_move rfl) ?_
          refine sq_g (v := (I a_1)) (congrArg some hb148) (rv_move rfl) ?_
          obtain ⟨x156, hx157, h'⟩ := bind_some h
          clear h
          have h := h'; clear h'
          obtain ⟨b159, o160, hi158, -⟩ := (H.own 0 rfl).ix hx157
          refine sq_g (v := (pt b159 o160)) (congrArg some hb148) (rv_ix Try.underlying27 ti64 rfl rfl hi158) ?_
          obtain ⟨_, ⟨_, _, rfl, rfl, rfl⟩, hl161, hc162⟩ := ((H.own 0 rfl).at hx157 hi158).cells
          refine sq_g (v := (.agg #[(I x156.1), (I x156.2)])) (congrArg some hb148) (rv_load Try.underlying64 rfl ti64 rfl hl161 hc162) ?_
          refine sq_end ?_
          intro σ163 hm164
          replace H := H.grow (hm164.mono fun _ h => h); clear hm164
          obtain ⟨r165, hx166, h'⟩ := bind_some h
          clear h
          have h := h'; clear h'
          have hc167 := c_impl_compareHits hx166
          refine st_call (cx_call hc167 (ent_v (cap := []) hc167.fn rfl rfl) hn0 (show Hp S0 σ0 _ ([] ++ [Ch.own 0 0 (Sl adata_0 s141.1 cdata_0) s141.1]) from (H.sel' [0] rfl rfl))) (wanted_yes rfl (by exact (congrArg some hb148))) ?_
          rintro _ σ168 ⟨_, ⟨rfl, rfl⟩, H, -⟩
          replace H : Hp S0 σ0 σ168 [Ch.own 0 0 (Sl adata_0 s141.1 cdata_0) s141.1] := H
          refine st_g (v := (B (decide (r165 < 0)))) (congrArg some hb148) (rv_lss (a := r165) (b := 0) rfl rfl) ?_
          refine st (v := (B (decide (r165 < 0)))) (rv_pick_t (congrArg B hb148) rfl) ?_
          refine w_end ?_
          obtain rfl := Option.some.inj h
          exact ⟨rfl, _, σ168, fr_join ⟨rfl, rfl, rfl, rfl, rfl, rfl, trivial⟩, rfl, H.sel' [0] rfl rfl⟩
         ·replace h := bif_f hb148 h
          refine sq_skip (congrArg some hb148) ?_
          refine sq_skip (congrArg some hb148) ?_
          refine sq_skip (congrArg some hb148) ?_
          refine sq_skip (congrArg some hb148) ?_
          refine sq_skip (congrArg some hb148) ?_
          refine sq_skip (congrArg some hb148) ?_
          refine sq_skip (congrArg some hb148) ?_
          refine sq_skip (congrArg some hb148) ?_
          refine sq_skip (congrArg some hb148) ?_
          refine sq_end ?_
          intro σ169 hm170
          replace H := H.grow (hm170.mono fun _ h => h); clear hm170
          refine st_skip (congrArg some hb148) ?_
          refine st_skip (congrArg some hb148) ?_
          refine st (v := (B false)) (rv_pick_f (congrArg B hb148) rfl) ?_
          refine w_end ?_
          obtain rfl := Option.some.inj h
          exact ⟨rfl, _, σ169, fr_join ⟨rfl, rfl, rfl, rfl, rfl, rfl, trivial⟩, rfl, H.sel' [0] rfl rfl⟩
        ·clear hj
         have h := h'
         clear h' H
         rintro e a w ⟨rfl, ρ, σ171, rfl, rfl, H⟩
         refine q_then ?_
         refine cd_cond o147 rfl (fun hb172 => ?_) (fun hb172 => ?_)
         ·replace h := bif_t hb172 h
          refine c_skip ?_
          refine q_then ?_
          refine c_blk ?_
          refine rg ?_
          refine st (v := (I s145)) (rv_move rfl) ?_
          refine st (v := (I (w64 (s145 + 1)))) (rv_add (a := s145) (b := 1) rfl rfl) ?_
          refine st (v := (I (w64 (s145 + 1)))) (rv_assign rfl) ?_
          refine w_end ?_
          refine q_blk ?_
          refine q_then ?_
          obtain rfl := Option.some.inj h
          exact ⟨_, rfl, _, σ171, fr_join ⟨rfl, rfl, rfl, rfl, rfl, trivial⟩, rfl, H.sel' [0] rfl rfl⟩
         ·replace h := bif_f hb172 h
          refine c_exit ?_
          refine q_then_x ?_
          refine q_then_x ?_
          refine q_blk_hit ?_
          obtain rfl := Option.some.inj h
          obtain rfl := hres _ rfl
          exact ⟨rfl, _, σ171, fr_join ⟨rfl, rfl, rfl, rfl, rfl, trivial⟩, rfl, H.sel' [0] rfl rfl⟩
       ·clear hj
        have h := h'
        clear h' H
        rintro e a w ⟨rfl, ρ, σ173, rfl, rfl, H⟩
        refine q_then ?_
        refine c_seq ?_
        obtain ⟨o174, hj, h'⟩ := bind_some h
        clear h
        refine c_cut (fun e a w => e = .normal ∧ ∃ (ρ : Nat → Value) (σ : St), a = fr 178 (updL ρ [(0, (Sl adata_0 s141.1 cdata_0)), (1, (I a_1)), (4, (.func (.func 101) #[] #[])), (12, (I o144)), (13, (I o174))]) ∧ w = σ.w ∧ Hp S0 σ0 σ [Ch.own 0 0 (Sl adata_0 s141.1 cdata_0) s141.1]) ?_ ?_
        ·clear h'
         rename _ = some o174 => h
         refine c_blk ?_
         refine wp_loopM _ h (fun s175 a w => ∃ (ρ : Nat → Value) (σ : St), a = fr 178 (updL ρ [(0, (Sl adata_0 s141.1 cdata_0)), (1, (I a_1)), (4, (.func (.func 101) #[] #[])), (12, (I o144)), (13, (I s175))]) ∧ w = σ.w ∧ Hp S0 σ0 σ [Ch.own 0 0 (Sl adata_0 s141.1 cdata_0) s141.1]) ⟨_, σ173, fr_join ⟨rfl, rfl, rfl, rfl, rfl, trivial⟩, rfl, H.sel' [0] rfl rfl⟩ ?_
         clear h H
         rintro s175 a w o ⟨ρ, σ176, rfl, rfl, H⟩ h hres
         refine c_seq ?_
         refine c_seq ?_
         obtain ⟨o177, hj, h'⟩ := bind_some h
         clear h
         refine c_cut (fun e a w => e = .normal ∧ ∃ (ρ : Nat → Value) (σ : St), a = fr 178 (updL ρ [(0, (Sl adata_0 s141.1 cdata_0)), (1, (I a_1)), (4, (.func (.func 101) #[] #[])), (12, (I o144)), (13, (I s175)), (139, (B o177))]) ∧ w = σ.w ∧ Hp S0 σ0 σ [Ch.own 0 0 (Sl adata_0 s141.1 cdata_0) s141.1]) ?_ ?_
         ·clear h'
          rename _ = some o177 => h
          refine rgP (σ := σ176) 13 (by kernel_rfl) (by kernel_rfl) (by kernel_rfl) ?_
          refine sq (v := (I o144)) (rv_move rfl) ?_
          refine sq (v := (I s175)) (rv_move rfl) ?_
          refine sq (v := (B (decide (o144 ≤ s175)))) (rv_leq (a := o144) (b := s175) rfl rfl) ?_
          refine sq (v := (B (decide (o144 ≤ s175)))) (rv_move rfl) ?_
          rcases Bool.eq_false_or_eq_true (decide (o144 ≤ s175)) with hb178 | hb178
          ·replace h := bif_t hb178 h
           refine sq_g (v := (.func (.func 101) #[] #[])) (congrArg some hb178) (rv_move rfl) ?_
           refine sq_g (v := (Sl adata_0 s141.1 cdata_0)) (congrArg some hb178) (rv_move rfl) ?_
           refine sq_g (v := (I s175)) (congrArg some hb178) (rv_move rfl) ?_
           obtain ⟨x179, hx180, h'⟩ := bind_some h
           clear h
           have h := h'; clear h'
           obtain ⟨b182, o183, hi181, -⟩ := (H.own 0 rfl).ix hx180
           refine sq_g (v := (pt b182 o183)) (congrArg some hb178) (rv_ix Try.underlying27 ti64 rfl rfl hi181) ?_
           obtain ⟨_, ⟨_, _, rfl, rfl, rfl⟩, hl184, hc185⟩ := ((H.own 0 rfl).at hx180 hi181).cells
           refine sq_g (v := (.agg #[(I x179.1), (I x179.2)])) (congrArg some hb178) (rv_load Try.underlying64 rfl ti64 rfl hl184 hc185) ?_
           refine sq_g (v := (Sl adata_0 s141.1 cdata_0)) (congrArg some hb178) (rv_move rfl) ?_
           refine sq_g (v := (I a_1)) (congrArg some hb178) (rv_move rfl) ?_
           obtain ⟨x186, hx187, h'⟩ := bind_some h
           clear h
           have h := h'; clear h'
           obtain ⟨b189, o190, hi188, -⟩ := (H.own 0 rfl).ix hx187
           refine sq_g (v := (pt b189 o190)) (congrArg some hb178) (rv_ix Try.underlying27 ti64 rfl rfl hi188) ?_
           obtain ⟨_, ⟨_, _, rfl, rfl, rfl⟩, hl191, hc192⟩ := ((H.own 0 rfl).at hx187 hi188).cells
           refine sq_g (v := (.agg #[(I x186.1), (I x186.2)])) (congrArg some hb178) (rv_load Try.underlying64 rfl ti64 rfl hl191 hc192) ?_
           refine sq_end ?_
           intro σ193 hm194
           replace H := H.grow (hm194.mono fun _ h => h); clear hm194
           obtain ⟨r195, hx196, h'⟩ := bind_some h
           clear h
           have h := h'; clear h'
           have hc197 := c_impl_compareHits hx196
           refine st_call (cx_call hc197 (ent_v (cap := []) hc197.fn rfl rfl) hn0 (show Hp S0 σ0 _ ([] ++ [Ch.own 0 0 (Sl adata_0 s141.1 cdata_0) s141.1]) from (H.sel' [0] rfl rfl))) (wanted_yes rfl (by exact (congrArg some hb178))) ?_
           rintro _ σ198 ⟨_, ⟨rfl, rfl⟩, H, -⟩
           replace H : Hp S0 σ0 σ198 [Ch.own 0 0 (Sl adata_0 s141.1 cdata_0) s141.1] := H
           refine st_g (v := (B (decide (r195 < 0)))) (congrArg some hb178) (rv_lss (a := r195) (b := 0) rfl rfl) ?_
           refine st_g (v := (B (!(decide (r195 < 0))))) (congrArg some hb178) (rv_not rfl) ?_
           refine st (v := (B (!(decide (r195 < 0))))) (rv_pick_t (congrArg B hb178) rfl) ?_
           refine w_end ?_
           obtain rfl := Option.some.inj h
           exact ⟨rfl, _, σ198, fr_join ⟨rfl, rfl, rfl, rfl, rfl, rfl, trivial⟩, rfl, H.sel' [0] rfl rfl⟩
          ·replace h := bif_f hb178 h
           refine sq_skip (congrArg some hb178) ?_
           refine sq_skip (congrArg some hb178) ?_
           refine sq_skip (congrArg some hb178) ?_
           refine sq_skip (congrArg some hb178) ?_
           refine sq_skip (congrArg some hb178) ?_
           refine sq_skip (congrArg some hb178) ?_
           refine sq_skip (congrArg some hb178) ?_
           refine sq_skip (congrArg some hb178) ?_
           refine sq_skip (congrArg some hb178) ?_
           refine sq_end ?_
           intro σ199 hm200
           replace H := H.grow (hm200.mono fun _ h => h); clear hm200
           refine st_skip (congrArg some hb178) ?_
           refine st_skip (congrArg some hb178) ?_
           refine st_skip (congrArg some hb178) ?_
           refine st (v := (B false)) (rv_pick_f (congrArg B hb178) rfl) ?_
           refine w_end ?_
           obtain rfl := Option.some.inj h
           exact ⟨rfl, _, σ199, fr_join ⟨rfl, rfl, rfl, rfl, rfl, rfl, trivial⟩, rfl, H.sel' [0] rfl rfl⟩
         ·clear hj
          have h := h'
          clear h' H
          rintro e a w ⟨rfl, ρ, σ201, rfl, rfl, H⟩
          refine q_then ?_
          refine cd_cond o177 rfl (fun hb202 => ?_) (fun hb202 => ?_)
          ·replace h := bif_t hb202 h
           refine c_skip ?_
           refine q_then ?_
           refine c_blk ?_
           refine rg ?_
           refine st (v := (I s175)) (rv_move rfl) ?_
           refine st (v := (I (w64 (s175 - 1)))) (rv_sub (a := s175) (b := 1) rfl rfl) ?_
           refine st (v := (I (w64 (s175 - 1)))) (rv_assign rfl) ?_
           refine w_end ?_
           refine q_blk ?_
           refine q_then ?_
           obtain rfl := Option.some.inj h
           exact ⟨_, rfl, _, σ201, fr_join ⟨rfl, rfl, rfl, rfl, rfl, trivial⟩, rfl, H.sel' [0] rfl rfl⟩
          ·replace h := bif_f hb202 h
           refine c_exit ?_
           refine q_then_x ?_
           refine q_then_x ?_
           refine q_blk_hit ?_
           obtain rfl := Option.some.inj h
           obtain rfl := hres _ rfl
           exact ⟨rfl, _, σ201, fr_join ⟨rfl, rfl, rfl, rfl, rfl, trivial⟩, rfl, H.sel' [0] rfl rfl⟩
        ·clear hj
         have h := h'
         clear h' H
         rintro e a w ⟨rfl, ρ, σ203, rfl, rfl, H⟩
         refine q_then ?_
         refine c_seq ?_
         refine c_seq ?_
         refine rg ?_
         refine st (v := (I o144)) (rv_move rfl) ?_
         refine st (v := (I o174)) (rv_move rfl) ?_
         refine st (v := (B (decide (o174 < o144)))) (rv_gtr (a := o144) (b := o174) rfl rfl) ?_
         refine w_end ?_
         refine q_then ?_
         refine cd_cond (decide (o174 < o144)) rfl (fun hb204 => ?_) (fun hb204 => ?_)
         ·replace h := bif_t hb204 h
          refine c_exit ?_
          refine q_then_x ?_
          refine q_blk_x (by decide) ?_
          refine q_then_x ?_
          refine q_blk_hit ?_
          obtain rfl := Option.some.inj h
          obtain rfl := hres _ rfl
          exact ⟨rfl, _, σ203, fr_join ⟨rfl, rfl, rfl, trivial⟩, rfl, H.sel' [0] rfl rfl, ((hn143.trans (List.length_set.trans (List.length_set.trans (List.length_set.trans List.length_set)))).trans (List.length_set.trans (List.length_set.trans (List.length_set.trans List.length_set))).symm)⟩
         ·replace h := bif_f hb204 h
          refine c_skip ?_
          refine q_then ?_
          refine c_seq ?_
          obtain ⟨x205, hx206, h'⟩ := bind_some h
          clear h
          have h := h'; clear h'
          obtain ⟨b208, o209, hi207, -⟩ := (H.own 0 rfl).ix hx206
          obtain ⟨_, ⟨_, _, rfl, rfl, rfl⟩, hl210, hc211⟩ := ((H.own 0 rfl).at hx206 hi207).cells
          obtain ⟨x212, hx213, h'⟩ := bind_some h
          clear h
          have h := h'; clear h'
          obtain ⟨b215, o216, hi214, -⟩ := (H.own 0 rfl).ix hx213
          obtain ⟨_, ⟨_, _, rfl, rfl, rfl⟩, hl217, hc218⟩ := ((H.own 0 rfl).at hx213 hi214).cells
          obtain ⟨x219, hx220, h'⟩ := bind_some h
          clear h
          have h := h'; clear h'
          obtain ⟨b222, o223, hi221, -⟩ := (H.own 0 rfl).ix hx220
          have Hs := H
          refine rg2 (σ := σ203) (Nm := Unit) 14 [13] [[false], [true]] [[(0, 0)], [(0, 0)], [(0, 0), (1, 1)], [(0, 0), (1, 1)], [(0, 0)], [(0, 0)], [(0, 0)], [(0, 0)], [(0, 0)], [(0, 0)], [(0, 0)], [(0, 0)], [(0, 0)], [(0, 1)]] 1 [fun (_nm : Unit) => fun σm => Hp S0 σ0 σm [Ch.own 0 0 (Sl adata_0 s141.1 cdata_0) s141.1] ∧ Md (cov []) σ203 σm, fun (_nm : Unit) => fun σm => Hp S0 σ0 σm [Ch.own 0 0 (Sl adata_0 s141.1 cdata_0) (s141.1.set o144.toNat (x205.1, x205.2))] ∧ Md (fun i => (cov []) i ∨ (fun b => blk (Sl adata_0 s141.1 cdata_0) = some b) i) σ203 σm] [fun (_nm : Unit) => (Sl adata_0 s141.1 cdata_0), fun (_nm : Unit) => (I o144), fun (_nm : Unit) => (Sl adata_0 s141.1 cdata_0), fun (_nm : Unit) => (I o174), fun (_nm : Unit) => (Sl adata_0 s141.1 cdata_0), fun (_nm : Unit) => (I o174), fun (_nm : Unit) => (pt b208 o209), fun (_nm : Unit) => (.agg #[(I x205.1), (I x205.2)]), fun (_nm : Unit) => (Sl adata_0 s141.1 cdata_0), fun (_nm : Unit) => (I o144), fun (_nm : Unit) => (pt b215 o216), fun (_nm : Unit) => (.agg #[(I x212.1), (I x212.2)]), fun (_nm : Unit) => (pt b222 o223), fun (_nm : Unit) => undef] () (by kernel_rfl) (by kernel_rfl) ?_ ?_ ?_
          ·intro σm m0
           exact ⟨H.grow (m0.mono fun _ h => h.elim), m0⟩
          ·refine all_cons (obs_v rfl (by
             intro k; intro _nm ρ σm hJ hoff hdep
             have e0 : look 178 ρ 0 = (Sl adata_0 s141.1 cdata_0) := look_off (hoff 0 rfl) rfl
             exact dp_v (v := (Sl adata_0 s141.1 cdata_0)) (wanted_none _ rfl _) (rv_move e0) rfl hJ)) ?_
           refine all_cons (obs_v rfl (by
             intro k; intro _nm ρ σm hJ hoff hdep
             have e12 : look 178 ρ 12 = (I o144) := look_off (hoff 12 rfl) rfl
             exact dp_v (v := (I o144)) (wanted_none _ rfl _) (rv_move e12) rfl hJ)) ?_
           refine all_cons (obs_v rfl (by
             intro k; intro _nm ρ σm hJ hoff hdep
             have e0 : look 178 ρ 0 = (Sl adata_0 s141.1 cdata_0) := look_off (hoff 0 rfl) rfl
             exact dp_v (v := (Sl adata_0 s141.1 cdata_0)) (wanted_none _ rfl _) (rv_move e0) rfl hJ)) ?_
           refine all_cons (obs_v rfl (by
             intro k; intro _nm ρ σm hJ hoff hdep
             have e13 : look 178 ρ 13 = (I o174) := look_off (hoff 13 rfl) rfl
             exact dp_v (v := (I o174)) (wanted_none _ rfl _) (rv_move e13) rfl hJ)) ?_
           refine all_cons (obs_v rfl (by
             intro k; intro _nm ρ σm hJ hoff hdep
             have e0 : look 178 ρ 0 = (Sl adata_0 s141.1 cdata_0) := look_off (hoff 0 rfl) rfl
             exact dp_v (v := (Sl adata_0 s141.1 cdata_0)) (wanted_none _ rfl _) (rv_move e0) rfl hJ)) ?_
           refine all_cons (obs_v rfl (by
             intro k; intro _nm ρ σm hJ hoff hdep
             have e13 : look 178 ρ 13 = (I o174) := look_off (hoff 13 rfl) rfl
             exact dp_v (v := (I o174)) (wanted_none _ rfl _) (rv_move e13) rfl hJ)) ?_
           refine all_cons (obs_v rfl (by
             intro k; intro _nm ρ σm hJ hoff hdep
             have e149 : look 178 ρ 149 = (Sl adata_0 s141.1 cdata_0) := hdep 4 rfl rfl 149 rfl
             have e150 : look 178 ρ 150 = (I o174) := hdep 5 rfl rfl 150 rfl
             exact dp_v (v := (pt b208 o209)) (wanted_none _ rfl _) (rv_ix Try.underlying27 ti64 e149 e150 hi207) rfl hJ)) ?_
           refine all_cons (by
             refine ⟨?_, ?_⟩
             ·intro _nm ρ σm hJ hoff hdep
              have e151 : look 178 ρ 151 = (pt b208 o209) := hdep 6 rfl rfl 151 rfl
              obtain ⟨H, m⟩ := id hJ
              obtain ⟨_, ⟨_, _, rfl, rfl, rfl⟩, hl210, hc211⟩ := ((H.own 0 rfl).at hx206 hi207).cells
              exact dp_v (v := (.agg #[(I x205.1), (I x205.2)])) (wanted_none _ rfl _) (rv_load Try.underlying64 rfl ti64 e151 hl210 hc211) rfl hJ
             trivial) ?_
           refine all_cons (obs_v rfl (by
             intro k; intro _nm ρ σm hJ hoff hdep
             have e0 : look 178 ρ 0 = (Sl adata_0 s141.1 cdata_0) := look_off (hoff 0 rfl) rfl
             exact dp_v (v := (Sl adata_0 s141.1 cdata_0)) (wanted_none _ rfl _) (rv_move e0) rfl hJ)) ?_
           refine all_cons (obs_v rfl (by
             intro k; intro _nm ρ σm hJ hoff hdep
             have e12 : look 178 ρ 12 = (I o144) := look_off (hoff 12 rfl) rfl
             exact dp_v (v := (I o144)) (wanted_none _ rfl _) (rv_move e12) rfl hJ)) ?_
           refine all_cons (obs_v rfl (by
             intro k; intro _nm ρ σm hJ hoff hdep
             have e153 : look 178 ρ 153 = (Sl adata_0 s141.1 cdata_0) := hdep 8 rfl rfl 153 rfl
             have e154 : look 178 ρ 154 = (I o144) := hdep 9 rfl rfl 154 rfl
             exact dp_v (v := (pt b215 o216)) (wanted_none _ rfl _) (rv_ix Try.underlying27 ti64 e153 e154 hi214) rfl hJ)) ?_
           refine all_cons (by
             refine ⟨?_, ?_⟩
             ·intro _nm ρ σm hJ hoff hdep
              have e155 : look 178 ρ 155 = (pt b215 o216) := hdep 10 rfl rfl 155 rfl
              obtain ⟨H, m⟩ := id hJ
              obtain ⟨_, ⟨_, _, rfl, rfl, rfl⟩, hl217, hc218⟩ := ((H.own 0 rfl).at hx213 hi214).cells
              exact dp_v (v := (.agg #[(I x212.1), (I x212.2)])) (wanted_none _ rfl _) (rv_load Try.underlying64 rfl ti64 e155 hl217 hc218) rfl hJ
             trivial) ?_
           refine all_cons (obs_v rfl (by
             intro k; intro _nm ρ σm hJ hoff hdep
             have e145 : look 178 ρ 145 = (Sl adata_0 s141.1 cdata_0) := hdep 0 rfl rfl 145 rfl
             have e146 : look 178 ρ 146 = (I o144) := hdep 1 rfl rfl 146 rfl
             exact dp_v (v := (pt b222 o223)) (wanted_none _ rfl _) (rv_ix Try.underlying27 ti64 e145 e146 hi221) rfl hJ)) ?_
           refine all_cons (by
             refine ⟨?_, ?_⟩
             ·intro _nm ρ σm hJ hoff hdep
              have e157 : look 178 ρ 157 = (pt b222 o223) := hdep 12 rfl rfl 157 rfl
              have e152 : look 178 ρ 152 = (.agg #[(I x205.1), (I x205.2)]) := hdep 7 rfl rfl 152 rfl
              obtain ⟨H, m⟩ := id hJ
              refine dp_exS (wanted_none _ rfl _) rfl (ex_store_own (e' := (x205.1, x205.2)) (vs := [(I x205.1), (I x205.2)]) (k := 0) H (i := 0) rfl ti64 hx220 hi221 e157 rfl e152 rfl rfl (Nat.le_of_ble_eq_true rfl) (by simp [plain]) (by rintro _ ⟨_, _, rfl, rfl, rfl⟩; exact ⟨[(I x205.1)], [(I x205.2)], rfl, rfl, rfl⟩)) ?_
              rintro σq ⟨H2, m2⟩
              exact ⟨_, (), rfl, ⟨H2.sel' [0] rfl rfl, m.comp m2⟩, stab [0, 1, 2, 3, 4, 5, 6, 7, 8, 9, 10, 11, 12] (by kernel_rfl) ⟨rfl, rfl, rfl, rfl, rfl, rfl, rfl, rfl, rfl, rfl, rfl, rfl, rfl, trivial⟩⟩
             trivial) ?_
           exact all_nil
          ·intro _nm ρ σ224 hJ hoff hrel
           have e0 : look 178 ρ 0 = (Sl adata_0 s141.1 cdata_0) := look_off (hoff 0 rfl) rfl
           have e1 : look 178 ρ 1 = (I a_1) := look_off (hoff 1 rfl) rfl
           have e4 : look 178 ρ 4 = (.func (.func 101) #[] #[]) := look_off (hoff 4 rfl) rfl
           have e12 : look 178 ρ 12 = (I o144) := look_off (hoff 12 rfl) rfl
           have e13 : look 178 ρ 13 = (I o174) := look_off (hoff 13 rfl) rfl
           have e147 : look 178 ρ 147 = (Sl adata_0 s141.1 cdata_0) := hrel 2 rfl 147 rfl
           have e148 : look 178 ρ 148 = (I o174) := hrel 3 rfl 148 rfl
           have e156 : look 178 ρ 156 = (.agg #[(I x212.1), (I x212.2)]) := hrel 11 rfl 156 rfl
           obtain ⟨H, -⟩ := (show Hp S0 σ0 σ224 [Ch.own 0 0 (Sl adata_0 s141.1 cdata_0) (s141.1.set o144.toNat (x205.1, x205.2))] ∧ Md (fun i => (cov []) i ∨ (fun b => blk (Sl adata_0 s141.1 cdata_0) = some b) i) σ203 σ224 from hJ)
           clear hJ Hs
           rw [fr_lookL (L := [(0, (Sl adata_0 s141.1 cdata_0)), (1, (I a_1)), (4, (.func (.func 101) #[] #[])), (12, (I o144)), (13, (I o174)), (147, (Sl adata_0 s141.1 cdata_0)), (148, (I o174)), (156, (.agg #[(I x212.1), (I x212.2)]))]) ⟨e0, e1, e4, e12, e13, e147, e148, e156, trivial⟩]
           clear hoff hrel e0 e1 e4 e12 e13 e147 e148 e156
           have hsl : (Sl adata_0 s141.1 cdata_0) = (Sl adata_0 (s141.1.set o144.toNat (x205.1, x205.2)) cdata_0) := sl_len (by simp)
           rw [hsl]; rw [hsl] at H; clear hsl
           obtain ⟨x225, hx226, h'⟩ := bind_some h
           clear h
           have h := h'; clear h'
           obtain ⟨b228, o229, hi227, -⟩ := (H.own 0 rfl).ix hx226
           refine st (v := (pt b228 o229)) (rv_ix Try.underlying27 ti64 rfl rfl hi227) ?_
           refine st_exS (ex_store_own (e' := (x212.1, x212.2)) (vs := [(I x212.1), (I x212.2)]) (k := 0) H (i := 0) rfl ti64 hx226 hi227 rfl rfl rfl rfl rfl (Nat.le_of_ble_eq_true rfl) (by simp [plain]) (by rintro _ ⟨_, _, rfl, rfl, rfl⟩; exact ⟨[(I x212.1)], [(I x212.2)], rfl, rfl, rfl⟩)) (wanted_none _ rfl _) ?_
           rintro σ230 ⟨H, -⟩
           have hsl : (Sl adata_0 (s141.1.set o144.toNat (x205.1, x205.2)) cdata_0) = (Sl adata_0 ((s141.1.set o144.toNat (x205.1, x205.2)).set o174.toNat (x212.1, x212.2)) cdata_0) := sl_len List.length_set.symm
           rw [hsl]; rw [hsl] at H; clear hsl
           refine w_end ?_
           refine q_then ?_
           refine c_seq ?_
           refine rg ?_
           refine st (v := (I o144)) (rv_move rfl) ?_
           refine st (v := (I (w64 (o144 + 1)))) (rv_add (a := o144) (b := 1) rfl rfl) ?_
           refine st (v := (I (w64 (o144 + 1)))) (rv_assign rfl) ?_
           refine w_end ?_
           refine q_then ?_
           refine rg ?_
           refine st (v := (I o174)) (rv_move rfl) ?_
           refine st (v := (I (w64 (o174 - 1)))) (rv_sub (a := o174) (b := 1) rfl rfl) ?_
           refine st (v := (I (w64 (o174 - 1)))) (rv_assign rfl) ?_
           refine w_end ?_
           refine q_blk ?_
           refine q_then ?_
           obtain rfl := Option.some.inj h
           exact ⟨_, rfl, _, σ230, fr_join ⟨rfl, rfl, rfl, rfl, rfl, trivial⟩, rfl, H.sel' [0] rfl rfl, ((List.length_set.trans (List.length_set.trans (hn143.trans (List.length_set.trans (List.length_set.trans (List.length_set.trans List.length_set)))))).trans (List.length_set.trans (List.length_set.trans (List.length_set.trans List.length_set))).symm)⟩
      ·clear hj
       have h := h'
       clear h' H
       rintro e a w ⟨rfl, ρ, σ231, rfl, rfl, H, hn232⟩
       refine q_then ?_
       refine c_seq ?_
       obtain ⟨x233, hx234, h'⟩ := bind_some h
       clear h
       have h := h'; clear h'
       obtain ⟨b236, o237, hi235, -⟩ := (H.own 0 rfl).ix hx234
       obtain ⟨_, ⟨_, _, rfl, rfl, rfl⟩, hl238, hc239⟩ := ((H.own 0 rfl).at hx234 hi235).cells
       obtain ⟨x240, hx241, h'⟩ := bind_some h
       clear h
       have h := h'; clear h'
       obtain ⟨b243, o244, hi242, -⟩ := (H.own 0 rfl).ix hx241
       obtain ⟨_, ⟨_, _, rfl, rfl, rfl⟩, hl245, hc246⟩ := ((H.own 0 rfl).at hx241 hi242).cells
       obtain ⟨x247, hx248, h'⟩ := bind_some h
       clear h
       have h := h'; clear h'
       obtain ⟨b250, o251, hi249, -⟩ := (H.own 0 rfl).ix hx248
       have Hs := H
       refine rg2 (σ := σ231) (Nm := Unit) 14 [13] [[false], [true]] [[(0, 0)], [(0, 0)], [(0, 0), (1, 1)], [(0, 0), (1, 1)], [(0, 0)], [(0, 0)], [(0, 0)], [(0, 0)], [(0, 0)], [(0, 0)], [(0, 0)], [(0, 0)], [(0, 0)], [(0, 1)]] 1 [fun (_nm : Unit) => fun σm => Hp S0 σ0 σm [Ch.own 0 0 (Sl adata_0 o140.1 cdata_0) o140.1] ∧ Md (cov []) σ231 σm, fun (_nm : Unit) => fun σm => Hp S0 σ0 σm [Ch.own 0 0 (Sl adata_0 o140.1 cdata_0) (o140.1.set o140.2.toNat (x233.1, x233.2))] ∧ Md (fun i => (cov []) i ∨ (fun b => blk (Sl adata_0 o140.1 cdata_0) = some b) i) σ231 σm] [fun (_nm : Unit) => (Sl adata_0 o140.1 cdata_0), fun (_nm : Unit) => (I o140.2), fun (_nm : Unit) => (Sl adata_0 o140.1 cdata_0), fun (_nm : Unit) => (I a_1), fun (_nm : Unit) => (Sl adata_0 o140.1 cdata_0), fun (_nm : Unit) => (I a_1), fun (_nm : Unit) => (pt b236 o237), fun (_nm : Unit) => (.agg #[(I x233.1), (I x233.2)]), fun (_nm : Unit) => (Sl adata_0 o140.1 cdata_0), fun (_nm : Unit) => (I o140.2), fun (_nm : Unit) => (pt b243 o244), fun (_nm : Unit) => (.agg #[(I x240.1), (I x240.2)]), fun (_nm : Unit) => (pt b250 o251), fun (_nm : Unit) => undef] () (by kernel_rfl) (by kernel_rfl) ?_ ?_ ?_
       ·intro σm m0
        exact ⟨H.grow (m0.mono fun _ h => h.elim), m0⟩
       ·refine all_cons (obs_v rfl (by
          intro k; intro _nm ρ σm hJ hoff hdep
          have e0 : look 178 ρ 0 = (Sl adata_0 o140.1 cdata_0) := look_off (hoff 0 rfl) rfl
          exact dp_v (v := (Sl adata_0 o140.1 cdata_0)) (wanted_none _ rfl _) (rv_move e0) rfl hJ)) ?_
        refine all_cons (obs_v rfl (by
          intro k; intro _nm ρ σm hJ hoff hdep
          have e13 : look 178 ρ 13 = (I o140.2) := look_off (hoff 13 rfl) rfl
          exact dp_v (v := (I o140.2)) (wanted_none _ rfl _) (rv_move e13) rfl hJ)) ?_
        refine all_cons (obs_v rfl (by
          intro k; intro _nm ρ σm hJ hoff hdep
          have e0 : look 178 ρ 0 = (Sl adata_0 o140.1 cdata_0) := look_off (hoff 0 rfl) rfl
          exact dp_v (v := (Sl adata_0 o140.1 cdata_0)) (wanted_none _ rfl _) (rv_move e0) rfl hJ)) ?_
        refine all_cons (obs_v rfl (by
          intro k; intro _nm ρ σm hJ hoff hdep
          have e1 : look 178 ρ 1 = (I a_1) := look_off (hoff 1 rfl) rfl
          exact dp_v (v := (I a_1)) (wanted_none _ rfl _) (rv_move e1) rfl hJ)) ?_
        refine all_cons (obs_v rfl (by
          intro k; intro _nm ρ σm hJ hoff hdep
          have e0 : look 178 ρ 0 = (Sl adata_0 o140.1 cdata_0) := look_off (hoff 0 rfl) rfl
          exact dp_v (v := (Sl adata_0 o140.1 cdata_0)) (wanted_none _ rfl _) (rv_move e0) rfl hJ)) ?_
        refine all_cons (obs_v rfl (by
          intro k; intro _nm ρ σm hJ hoff hdep
          have e1 : look 178 ρ 1 = (I a_1) := look_off (hoff 1 rfl) rfl
          exact dp_v (v := (I a_1)) (wanted_none _ rfl _) (rv_move e1) rfl hJ)) ?_
        refine all_cons (obs_v rfl (by
          intro k; intro _nm ρ σm hJ hoff hdep
          have e167 : look 178 ρ 167 = (Sl adata_0 o140.1 cdata_0) := hdep 4 rfl rfl 167 rfl
          have e168 : look 178 ρ 168 = (I a_1) := hdep 5 rfl rfl 168 rfl
          exact dp_v (v := (pt b236 o237)) (wanted_none _ rfl _) (rv_ix Try.underlying27 ti64 e167 e168 hi235) rfl hJ)) ?_
        refine all_cons (by
          refine ⟨?_, ?_⟩
          ·intro _nm ρ σm hJ hoff hdep
           have e169 : look 178 ρ 169 = (pt b236 o237) := hdep 6 rfl rfl 169 rfl
           obtain ⟨H, m⟩ := id hJ
           obtain ⟨_, ⟨_, _, rfl, rfl, rfl⟩, hl238, hc239⟩ := ((H.own 0 rfl).at hx234 hi235).cells
           exact dp_v (v := (.agg #[(I x233.1), (I x233.2)])) (wanted_none _ rfl _) (rv_load Try.underlying64 rfl ti64 e169 hl238 hc239) rfl hJ
          trivial) ?_
        refine all_cons (obs_v rfl (by
          intro k; intro _nm ρ σm hJ hoff hdep
          have e0 : look 178 ρ 0 = (Sl adata_0 o140.1 cdata_0) := look_off (hoff 0 rfl) rfl
          exact dp_v (v := (Sl adata_0 o140.1 cdata_0)) (wanted_none _ rfl _) (rv_move e0) rfl hJ)) ?_
        refine all_cons (obs_v rfl (by
          intro k; intro _nm ρ σm hJ hoff hdep
          have e13 : look 178 ρ 13 = (I o140.2) := look_off (hoff 13 rfl) rfl
          exact dp_v (v := (I o140.2)) (wanted_none _ rfl _) (rv_move e13) rfl hJ)) ?_
        refine all_cons (obs_v rfl (by
          intro k; intro _nm ρ σm hJ hoff hdep
          have e171 : look 178 ρ 171 = (Sl adata_0 o140.1 cdata_0) := hdep 8 rfl rfl 171 rfl
          have e172 : look 178 ρ 172 = (I o140.2) := hdep 9 rfl rfl 172 rfl
          exact dp_v (v := (pt b243 o244)) (wanted_none _ rfl _) (rv_ix Try.underlying27 ti64 e171 e172 hi242) rfl hJ)) ?_
        refine all_cons (by
          refine ⟨?_, ?_⟩
          ·intro _nm ρ σm hJ hoff hdep
           have e173 : look 178 ρ 173 = (pt b243 o244) := hdep 10 rfl rfl 173 rfl
           obtain ⟨H, m⟩ := id hJ
           obtain ⟨_, ⟨_, _, rfl, rfl, rfl⟩, hl245, hc246⟩ := ((H.own 0 rfl).at hx241 hi242).cells
           exact dp_v (v := (.agg #[(I x240.1), (I x240.2)])) (wanted_none _ rfl _) (rv_load Try.underlying64 rfl ti64 e173 hl245 hc246) rfl hJ
          trivial) ?_
        refine all_cons (obs_v rfl (by
          intro k; intro _nm ρ σm hJ hoff hdep
          have e163 : look 178 ρ 163 = (Sl adata_0 o140.1 cdata_0) := hdep 0 rfl rfl 163 rfl
          have e164 : look 178 ρ 164 = (I o140.2) := hdep 1 rfl rfl 164 rfl
          exact dp_v (v := (pt b250 o251)) (wanted_none _ rfl _) (rv_ix Try.underlying27 ti64 e163 e164 hi249) rfl hJ)) ?_
        refine all_cons (by
          refine ⟨?_, ?_⟩
          ·intro _nm ρ σm hJ hoff hdep
           have e175 : look 178 ρ 175 = (pt b250 o251) := hdep 12 rfl rfl 175 rfl
           have e170 : look 178 ρ 170 = (.agg #[(I x233.1), (I x233.2)]) := hdep 7 rfl rfl 170 rfl
           obtain ⟨H, m⟩ := id hJ
           refine dp_exS (wanted_none _ rfl _) rfl (ex_store_own (e' := (x233.1, x233.2)) (vs := [(I x233.1), (I x233.2)]) (k := 0) H (i := 0) rfl ti64 hx248 hi249 e175 rfl e170 rfl rfl (Nat.le_of_ble_eq_true rfl) (by simp [plain]) (by rintro _ ⟨_, _, rfl, rfl, rfl⟩; exact ⟨[(I x233.1)], [(I x233.2)], rfl, rfl, rfl⟩)) ?_
           rintro σq ⟨H2, m2⟩
           exact ⟨_, (), rfl, ⟨H2.sel' [0] rfl rfl, m.comp m2⟩, stab [0, 1, 2, 3, 4, 5, 6, 7, 8, 9, 10, 11, 12] (by kernel_rfl) ⟨rfl, rfl, rfl, rfl, rfl, rfl, rfl, rfl, rfl, rfl, rfl, rfl, rfl, trivial⟩⟩
          trivial) ?_
        exact all_nil
       ·intro _nm ρ σ252 hJ hoff hrel
        have e0 : look 178 ρ 0 = (Sl adata_0 o140.1 cdata_0) := look_off (hoff 0 rfl) rfl
        have e13 : look 178 ρ 13 = (I o140.2) := look_off (hoff 13 rfl) rfl
        have e165 : look 178 ρ 165 = (Sl adata_0 o140.1 cdata_0) := hrel 2 rfl 165 rfl
        have e166 : look 178 ρ 166 = (I a_1) := hrel 3 rfl 166 rfl
        have e174 : look 178 ρ 174 = (.agg #[(I x240.1), (I x240.2)]) := hrel 11 rfl 174 rfl
        obtain ⟨H, -⟩ := (show Hp S0 σ0 σ252 [Ch.own 0 0 (Sl adata_0 o140.1 cdata_0) (o140.1.set o140.2.toNat (x233.1, x233.2))] ∧ Md (fun i => (cov []) i ∨ (fun b => blk (Sl adata_0 o140.1 cdata_0) = some b) i) σ231 σ252 from hJ)
        clear hJ Hs
        rw [fr_lookL (L := [(0, (Sl adata_0 o140.1 cdata_0)), (13, (I o140.2)), (165, (Sl adata_0 o140.1 cdata_0)), (166, (I a_1)), (174, (.agg #[(I x240.1), (I x240.2)]))]) ⟨e0, e13, e165, e166, e174, trivial⟩]
        clear hoff hrel e0 e13 e165 e166 e174
        have hsl : (Sl adata_0 o140.1 cdata_0) = (Sl adata_0 (o140.1.set o140.2.toNat (x233.1, x233.2)) cdata_0) := sl_len (by simp)
        rw [hsl]; rw [hsl] at H; clear hsl
        obtain ⟨x253, hx254, h'⟩ := bind_some h
        clear h
        have h := h'; clear h'
        obtain ⟨b256, o257, hi255, -⟩ := (H.own 0 rfl).ix hx254
        refine st (v := (pt b256 o257)) (rv_ix Try.underlying27 ti64 rfl rfl hi255) ?_
        refine st_exS (ex_store_own (e' := (x240.1, x240.2)) (vs := [(I x240.1), (I x240.2)]) (k := 0) H (i := 0) rfl ti64 hx254 hi255 rfl rfl rfl rfl rfl (Nat.le_of_ble_eq_true rfl) (by simp [plain]) (by rintro _ ⟨_, _, rfl, rfl, rfl⟩; exact ⟨[(I x240.1)], [(I x240.2)], rfl, rfl, rfl⟩)) (wanted_none _ rfl _) ?_
        rintro σ258 ⟨H, -⟩
        have hsl : (Sl adata_0 (o140.1.set o140.2.toNat (x233.1, x233.2)) cdata_0) = (Sl adata_0 ((o140.1.set o140.2.toNat (x233.1, x233.2)).set a_1.toNat (x240.1, x240.2)) cdata_0) := sl_len List.length_set.symm
        rw [hsl]; rw [hsl] at H; clear hsl
        refine w_end ?_
        refine q_then ?_
        refine c_seq ?_
        refine rg ?_
        refine st (v := (I o140.2)) (rv_move rfl) ?_
        refine st (v := (I o140.2)) (rv_assign rfl) ?_
        refine st (v := (B false)) (rv_assign rfl) ?_
        refine w_end ?_
        refine q_then ?_
        refine c_ret ?_
        obtain rfl := Option.some.inj h
        exact fin_ret (v := (.tuple #[(I o140.2), (B false)])) (results_ok Try.results150 (res_tmp (v := (I o140.2)) rfl (res_tmp (v := (B false)) rfl res_nil)) rfl) ⟨rfl, rfl, (List.length_set.trans (List.length_set.trans (hn232.trans (List.length_set.trans (List.length_set.trans (List.length_set.trans List.length_set))))))⟩ (H.sel' [0] rfl rfl)

theorem c_slices_pdqsortCmpFunc_impl_Hit__impl_compareHits : ∀ (fuel : Nat) {data_0 : List (Int × Int)} {a_1 : Int} {b_2 : Int} {limit_3 : Int} {adata_0 : Option Addr} {cdata_0 : Nat} {r : (List (Int × Int))} (h : M.slices_pdqsortCmpFunc_impl_Hit__impl_compareHits fuel data_0 a_1 b_2 limit_3 = some r),
    Cal2 Try.prog 130 [(Sl adata_0 data_0 cdata_0), (I a_1), (I b_2), (I limit_3), (.func (.func 101) #[] #[])] [Ch.own 0 0 (Sl adata_0 data_0 cdata_0) data_0] (fun n0 v L => v = (.tuple #[]) ∧ L = [Ch.own 0 0 (Sl adata_0 r cdata_0) r] ∧ r.length = data_0.length) := by
 intro fuel
 induction fuel with
 | zero => intro _ _ _ _ _ _ r h; cases h
 | succ fuel ih =>
 ·intro data_0 a_1 b_2 limit_3 adata_0 cdata_0 r h
  replace h : M.slices_pdqsortCmpFunc_impl_Hit__impl_compareHits_F (M.slices_pdqsortCmpFunc_impl_Hit__impl_compareHits fuel) data_0 a_1 b_2 limit_3 = some r := h
  refine cal2 (n := 148) Try.func130 rfl rfl rfl rfl ?_
  intro S0 σ0 n0 hn0 H
  unfold M.slices_pdqsortCmpFunc_impl_Hit__impl_compareHits_F at h
  refine c_seq ?_
  refine rg ?_
  refine st (v := (B true)) (rv_assign rfl) ?_
  refine w_end ?_
  refine q_then ?_
  refine c_seq ?_
  refine rg ?_
  refine st (v := (B true)) (rv_assign rfl) ?_
  refine w_end ?_
  refine q_then ?_
  obtain ⟨o1, hj, h'⟩ := bind_some h
  clear h
  refine c_cut (fun e a w => e = .ret ∧ ∃ (ρ : Nat → Value) (σ : St), a = fr 148 (updL ρ [(0, (Sl adata_0 o1 cdata_0))]) ∧ w = σ.w ∧ Hp S0 σ0 σ [Ch.own 0 0 (Sl adata_0 o1 cdata_0) o1] ∧ o1.length = data_0.length) ?_ ?_
  ·clear h'
   rename _ = some o1 => h
   refine c_blk ?_
   refine wp_loopM _ h (fun s2 a w => ∃ (ρ : Nat → Value) (σ : St), a = fr 148 (updL ρ [(0, (Sl adata_0 s2.1 cdata_0)), (1, (I s2.2.1)), (2, (I s2.2.2.1)), (3, (I s2.2.2.2.1)), (4, (.func (.func 101) #[] #[])), (10, (B s2.2.2.2.2.1)), (11, (B s2.2.2.2.2.2))]) ∧ w = σ.w ∧ Hp S0 σ0 σ [Ch.own 0 0 (Sl adata_0 s2.1 cdata_0) s2.1] ∧ s2.1.length = data_0.length) ⟨_, σ0, fr_join ⟨rfl, rfl, rfl, rfl, rfl, rfl, rfl, trivial⟩, rfl, H.sel' [0] rfl rfl, rfl⟩ ?_
   clear h H
   rintro s2 a w o ⟨ρ, σ3, rfl, rfl, H, hn4⟩ h hres
   refine c_blk ?_
   refine c_seq ?_
   refine rg ?_
   refine st (v := (I s2.2.2.1)) (rv_move rfl) ?_
   refine st (v := (I s2.2.1)) (rv_move rfl) ?_
   refine st (v := (I (w64 (s2.2.2.1 - s2.2.1)))) (rv_sub (a := s2.2.2.1) (b := s2.2.1) rfl rfl) ?_
   refine st (v := (I (w64 (s2.2.2.1 - s2.2.1)))) (rv_assign rfl) ?_
   refine w_end ?_
   refine q_then ?_
   refine c_seq ?_
   refine c_seq ?_
   refine rg ?_
   refine st (v := (I (w64 (s2.2.2.1 - s2.2.1)))) (rv_move rfl) ?_
   refine st (v := (B (decide ((w64 (s2.2.2.1 - s2.2.1)) ≤ 12)))) (rv_leq (a := (w64 (s2.2.2.1 - s2.2.1))) (b := 12) rfl rfl) ?_
   refine w_end ?_
   refine q_then ?_
   refine cd_cond (decide ((w64 (s2.2.2.1 - s2.2.1)) ≤ 12)) rfl (fun hb5 => ?_) (fun hb5 => ?_)
   ·replace h := bif_t hb5 h
    refine c_seq ?_
    refine rg ?_
    refine st (v := (Sl adata_0 s2.1 cdata_0)) (rv_move rfl) ?_
    refine st (v := (I s2.2.1)) (rv_move rfl) ?_
    refine st (v := (I s2.2.2.1)) (rv_move rfl) ?_
    refine st (v := (.func (.func 101) #[] #[])) (rv_move rfl) ?_
    obtain ⟨r6, hx7, h'⟩ := bind_some h
    clear h
    have h := h'; clear h'
    have hc8 := c_slices_insertionSortCmpFunc_impl_Hit__impl_compareHits (adata_0 := adata_0) (cdata_0 := cdata_0) hx7
    refine st_call (cx_call hc8 (ent_f hc8.fn rfl) hn0 (show Hp S0 σ0 _ ([Ch.own 0 0 (Sl adata_0 s2.1 cdata_0) s2.1] ++ []) from (H.sel' [0] rfl rfl))) (wanted_none _ rfl _) ?_
    rintro _ σ10 ⟨_, ⟨rfl, rfl, hn9⟩, H, -⟩
    replace H : Hp S0 σ0 σ10 [Ch.own 0 0 (Sl adata_0 r6 cdata_0) r6] := H
    have hsl : (Sl adata_0 s2.1 cdata_0) = (Sl adata_0 r6 cdata_0) := sl_len hn9.symm
    try rw [hsl]
    try rw [hsl] at H
    clear hsl
    refine w_end ?_
    refine q_then ?_
    refine c_ret ?_
    refine q_then_r ?_
    refine q_blk_r ?_
    refine q_then_r ?_
    refine q_blk_r ?_
    obtain rfl := Option.some.inj h
    obtain rfl := hres _ rfl
    exact ⟨rfl, _, σ10, fr_join ⟨rfl, trivial⟩, rfl, H.sel' [0] rfl rfl, (hn9.trans hn4)⟩
   ·replace h := bif_f hb5 h
    refine c_skip ?_
    refine q_then ?_
    refine c_seq ?_
    refine c_seq ?_
    refine rg ?_
    refine st (v := (I s2.2.2.2.1)) (rv_move rfl) ?_
    refine st (v := (B (s2.2.2.2.1 == 0))) (rv_eql (a := s2.2.2.2.1) (b := 0) rfl rfl) ?_
    refine w_end ?_
    refine q_then ?_
    refine cd_cond (s2.2.2.2.1 == 0) rfl (fun hb11 => ?_) (fun hb11 => ?_)
    ·replace h := bif_t hb11 h
     refine c_seq ?_
     refine rg ?_
     refine st (v := (Sl adata_0 s2.1 cdata_0)) (rv_move rfl) ?_
     refine st (v := (I s2.2.1)) (rv_move rfl) ?_
     refine st (v := (I s2.2.2.1)) (rv_move rfl) ?_
     refine st (v := (.func (.func 101) #[] #[])) (rv_move rfl) ?_
     obtain ⟨r12, hx13, h'⟩ := bind_some h
     clear h
     have h := h'; clear h'
     have hc14 := c_slices_heapSortCmpFunc_impl_Hit__impl_compareHits (adata_0 := adata_0) (cdata_0 := cdata_0) hx13
     refine st_call (cx_call hc14 (ent_f hc14.fn rfl) hn0 (show Hp S0 σ0 _ ([Ch.own 0 0 (Sl adata_0 s2.1 cdata_0) s2.1] ++ []) from (H.sel' [0] rfl rfl))) (wanted_none _ rfl _) ?_
     rintro _ σ16 ⟨_, ⟨rfl, rfl, hn15⟩, H, -⟩
     replace H : Hp S0 σ0 σ16 [Ch.own 0 0 (Sl adata_0 r12 cdata_0) r12] := H
     have hsl : (Sl adata_0 s2.1 cdata_0) = (Sl adata_0 r12 cdata_0) := sl_len hn15.symm
     try rw [hsl]
     try rw [hsl] at H
     clear hsl
     refine w_end ?_
     refine q_then ?_
     refine c_ret ?_
     refine q_then_r ?_
     refine q_blk_r ?_
     refine q_then_r ?_
     refine q_blk_r ?_
     obtain rfl := Option.some.inj h
     obtain rfl := hres _ rfl
     exact ⟨rfl, _, σ16, fr_join ⟨rfl, trivial⟩, rfl, H.sel' [0] rfl rfl, (hn15.trans hn4)⟩
    ·replace h := bif_f hb11 h
     refine c_skip ?_
     refine q_then ?_
     refine c_seq ?_
     refine c_seq ?_
     refine rg ?_
     refine st (v := (B s2.2.2.2.2.1)) (rv_move rfl) ?_
     refine st (v := (B (!s2.2.2.2.2.1))) (rv_not rfl) ?_
     refine w_end ?_
     refine q_then ?_
     obtain ⟨o17, hj, h'⟩ := bind_some h
     clear h
     refine c_cut (fun e a w => e = .normal ∧ ∃ (ρ : Nat → Value) (σ : St), a = fr 148 (updL ρ [(0, (Sl adata_0 o17.1 cdata_0)), (1, (I s2.2.1)), (2, (I s2.2.2.1)), (3, (I o17.2)), (4, (.func (.func 101) #[] #[])), (10, (B s2.2.2.2.2.1)), (11, (B s2.2.2.2.2.2)), (12, (I (w64 (s2.2.2.1 - s2.2.1))))]) ∧ w = σ.w ∧ Hp S0 σ0 σ [Ch.own 0 0 (Sl adata_0 o17.1 cdata_0) o17.1] ∧ o17.1.length = s2.1.length) ?_ ?_
     ·clear h'
      rename _ = some o17 => h
      refine cd_cond (!s2.2.2.2.2.1) rfl (fun hb18 => ?_) (fun hb18 => ?_)
      ·replace h := bif_t hb18 h
       refine c_seq ?_
       refine rg ?_
       refine st (v := (Sl adata_0 s2.1 cdata_0)) (rv_move rfl) ?_
       refine st (v := (I s2.2.1)) (rv_move rfl) ?_
       refine st (v := (I s2.2.2.1)) (rv_move rfl) ?_
       refine st (v := (.func (.func 101) #[] #[])) (rv_move rfl) ?_
       obtain ⟨r19, hx20, h'⟩ := bind_some h
       clear h
       have h := h'; clear h'
       have hc21 := c_slices_breakPatternsCmpFunc_impl_Hit__impl_compareHits (adata_0 := adata_0) (cdata_0 := cdata_0) hx20
       refine st_call (cx_call hc21 (ent_f hc21.fn rfl) hn0 (show Hp S0 σ0 _ ([Ch.own 0 0 (Sl adata_0 s2.1 cdata_0) s2.1] ++ []) from (H.sel' [0] rfl rfl))) (wanted_none _ rfl _) ?_
       rintro _ σ23 ⟨_, ⟨rfl, rfl, hn22⟩, H, -⟩
       replace H : Hp S0 σ0 σ23 [Ch.own 0 0 (Sl adata_0 r19 cdata_0) r19] := H
       have hsl : (Sl adata_0 s2.1 cdata_0) = (Sl adata_0 r19 cdata_0) := sl_len hn22.symm
       try rw [hsl]
       try rw [hsl] at H
       clear hsl
       refine w_end ?_
       refine q_then ?_
       refine rg ?_
       refine st (v := (I s2.2.2.2.1)) (rv_move rfl) ?_
       refine st (v := (I (w64 (s2.2.2.2.1 - 1)))) (rv_sub (a := s2.2.2.2.1) (b := 1) rfl rfl) ?_
       refine st (v := (I (w64 (s2.2.2.2.1 - 1)))) (rv_assign rfl) ?_
       refine w_end ?_
       obtain rfl := Option.some.inj h
       exact ⟨rfl, _, σ23, fr_join ⟨rfl, rfl, rfl, rfl, rfl, rfl, rfl, rfl, trivial⟩, rfl, H.sel' [0] rfl rfl, ((hn22.trans hn4).trans hn4.symm)⟩
      ·replace h := bif_f hb18 h
       refine c_skip ?_
       obtain rfl := Option.some.inj h
       exact ⟨rfl, _, σ3, fr_join ⟨rfl, rfl, rfl, rfl, rfl, rfl, rfl, rfl, trivial⟩, rfl, H.sel' [0] rfl rfl, rfl⟩
     ·clear hj
      have h := h'
      clear h' H
      rintro e a w ⟨rfl, ρ, σ24, rfl, rfl, H, hn25⟩
      refine q_then ?_
      refine c_seq ?_
      refine rg ?_
      refine st (v := (Sl adata_0 o17.1 cdata_0)) (rv_move rfl) ?_
      refine st (v := (I s2.2.1)) (rv_move rfl) ?_
      refine st (v := (I s2.2.2.1)) (rv_move rfl) ?_
      refine st (v := (.func (.func 101) #[] #[])) (rv_move rfl) ?_
      obtain ⟨r26, hx27, h'⟩ := bind_some h
      clear h
      have h := h'; clear h'
      have hc28 := c_slices_choosePivotCmpFunc_impl_Hit__impl_compareHits (adata_0 := adata_0) (cdata_0 := cdata_0) hx27
      have hle := Nat.le_trans hn0 H.size
      refine st_call (cx_lend (Loan.lend Loan.nil) hc28 (ent_f hc28.fn rfl) (show Hp S0 σ0 _ ([Ch.own 0 0 (Sl adata_0 o17.1 cdata_0) o17.1] ++ ([] ++ [])) from (H.sel' [0] rfl rfl)) (by rintro _ _ _ ⟨rfl, rfl⟩; exact trivial)) (wanted_none _ rfl _) ?_
      rintro _ σ29 ⟨_, ⟨rfl, rfl⟩, H, -, -⟩
      replace H : Hp S0 σ0 σ29 [Ch.own 0 0 (Sl adata_0 o17.1 cdata_0) o17.1] := H
      clear hle
      replace H : Hp S0 σ0 σ29 [Ch.own 0 0 (Sl adata_0 o17.1 cdata_0) o17.1] := H
      refine st (v := (.tuple #[(I r26.1), (I r26.2)])) (rv_move rfl) ?_
      refine st (v := (I r26.1)) (rv_extract rfl rfl) ?_
      refine st (v := (I r26.2)) (rv_extract rfl rfl) ?_
      refine st (v := (I r26.1)) (rv_assign rfl) ?_
      refine st (v := (I r26.2)) (rv_assign rfl) ?_
      refine w_end ?_
      refine q_then ?_
      refine c_seq ?_
      refine c_seq ?_
      refine rg ?_
      refine st (v := (I r26.2)) (rv_move rfl) ?_
      refine st (v := (B (r26.2 == 2))) (rv_eql (a := r26.2) (b := 2) rfl rfl) ?_
      refine w_end ?_
      refine q_then ?_
      obtain ⟨o30, hj, h'⟩ := bind_some h
      clear h
      refine c_cut (fun e a w => e = .normal ∧ ∃ (ρ : Nat → Value) (σ : St), a = fr 148 (updL ρ [(0, (Sl adata_0 o30.1 cdata_0)), (1, (I s2.2.1)), (2, (I s2.2.2.1)), (3, (I o17.2)), (4, (.func (.func 101) #[] #[])), (10, (B s2.2.2.2.2.1)), (11, (B s2.2.2.2.2.2)), (12, (I (w64 (s2.2.2.1 - s2.2.1)))), (13, (I o30.2.1)), (14, (I o30.2.2))]) ∧ w = σ.w ∧ Hp S0 σ0 σ [Ch.own 0 0 (Sl adata_0 o30.1 cdata_0) o30.1] ∧ o30.1.length = o17.1.length) ?_ ?_
      ·clear h'
       rename _ = some o30 => h
       refine cd_cond (r26.2 == 2) rfl (fun hb31 => ?_) (fun hb31 => ?_)
       ·replace h := bif_t hb31 h
        refine c_seq ?_
        refine rg ?_
        refine st (v := (Sl adata_0 o17.1 cdata_0)) (rv_move rfl) ?_
        refine st (v := (I s2.2.1)) (rv_move rfl) ?_
        refine st (v := (I s2.2.2.1)) (rv_move rfl) ?_
        refine st (v := (.func (.func 101) #[] #[])) (rv_move rfl) ?_
        obtain ⟨r32, hx33, h'⟩ := bind_some h
        clear h
        have h := h'; clear h'
        have hc34 := c_slices_reverseRangeCmpFunc_impl_Hit__impl_compareHits (adata_0 := adata_0) (cdata_0 := cdata_0) hx33
        refine st_call (cx_call hc34 (ent_f hc34.fn rfl) hn0 (show Hp S0 σ0 _ ([Ch.own 0 0 (Sl adata_0 o17.1 cdata_0) o17.1] ++ []) from (H.sel' [0] rfl rfl))) (wanted_none _ rfl _) ?_
        rintro _ σ36 ⟨_, ⟨rfl, rfl, hn35⟩, H, -⟩
        replace H : Hp S0 σ0 σ36 [Ch.own 0 0 (Sl adata_0 r32 cdata_0) r32] := H
        have hsl : (Sl adata_0 o17.1 cdata_0) = (Sl adata_0 r32 cdata_0) := sl_len hn35.symm
        try rw [hsl]
        try rw [hsl] at H
        clear hsl
        refine w_end ?_
        refine q_then ?_
        refine c_seq ?_
        refine rg ?_
        refine st (v := (I s2.2.2.1)) (rv_move rfl) ?_
        refine st (v := (I (w64 (s2.2.2.1 - 1)))) (rv_sub (a := s2.2.2.1) (b := 1) rfl rfl) ?_
        refine st (v := (I r26.1)) (rv_move rfl) ?_
        refine st (v := (I s2.2.1)) (rv_move rfl) ?_
        refine st (v := (I (w64 (r26.1 - s2.2.1)))) (rv_sub (a := r26.1) (b := s2.2.1) rfl rfl) ?_
        refine st (v := (I (w64 ((w64 (s2.2.2.1 - 1)) - (w64 (r26.1 - s2.2.1)))))) (rv_sub (a := (w64 (s2.2.2.1 - 1))) (b := (w64 (r26.1 - s2.2.1))) rfl rfl) ?_
        refine st (v := (I (w64 ((w64 (s2.2.2.1 - 1)) - (w64 (r26.1 - s2.2.1)))))) (rv_assign rfl) ?_
        refine w_end ?_
        refine q_then ?_
        refine rg ?_
        refine st (v := (I 1)) (rv_assign rfl) ?_
        refine w_end ?_
        obtain rfl := Option.some.inj h
        exact ⟨rfl, _, σ36, fr_join ⟨rfl, rfl, rfl, rfl, rfl, rfl, rfl, rfl, rfl, rfl, trivial⟩, rfl, H.sel' [0] rfl rfl, ((hn35.trans (hn25.trans hn4)).trans (hn25.trans hn4).symm)⟩
       ·replace h := bif_f hb31 h
        refine c_skip ?_
        obtain rfl := Option.some.inj h
        exact ⟨rfl, _, σ29, fr_join ⟨rfl, rfl, rfl, rfl, rfl, rfl, rfl, rfl, rfl, rfl, trivial⟩, rfl, H.sel' [0] rfl rfl, rfl⟩
      ·clear hj
       have h := h'
       clear h' H
       rintro e a w ⟨rfl, ρ, σ37, rfl, rfl, H, hn38⟩
       refine q_then ?_
       refine c_seq ?_
       refine c_seq ?_
       obtain ⟨o39, hj, h'⟩ := bind_some h
       clear h
       refine c_cut (fun e a w => e = .normal ∧ ∃ (ρ : Nat → Value) (σ : St), a = fr 148 (updL ρ [(0, (Sl adata_0 o30.1 cdata_0)), (1, (I s2.2.1)), (2, (I s2.2.2.1)), (3, (I o17.2)), (4, (.func (.func 101) #[] #[])), (10, (B s2.2.2.2.2.1)), (11, (B s2.2.2.2.2.2)), (12, (I (w64 (s2.2.2.1 - s2.2.1)))), (13, (I o30.2.1)), (75, (B o39))]) ∧ w = σ.w ∧ Hp S0 σ0 σ [Ch.own 0 0 (Sl adata_0 o30.1 cdata_0) o30.1]) ?_ ?_
       ·clear h'
        rename _ = some o39 => h
        refine rg ?_
        refine st (v := (B s2.2.2.2.2.1)) (rv_move rfl) ?_
        refine st (v := (B s2.2.2.2.2.1)) (rv_move rfl) ?_
        rcases Bool.eq_false_or_eq_true s2.2.2.2.2.1 with hb40 | hb40
        ·replace h := bif_t hb40 h
         refine st_g (v := (B s2.2.2.2.2.2)) (congrArg some hb40) (rv_move rfl) ?_
         refine st (v := (B s2.2.2.2.2.2)) (rv_pick_t (congrArg B hb40) rfl) ?_
         refine st (v := (B s2.2.2.2.2.2)) (rv_move rfl) ?_
         rcases Bool.eq_false_or_eq_true s2.2.2.2.2.2 with hb41 | hb41
         ·replace h := bif_t hb41 h
          refine st_g (v := (I o30.2.2)) (congrArg some hb41) (rv_move rfl) ?_
          refine st_g (v := (B (o30.2.2 == 1))) (congrArg some hb41) (rv_eql (a := o30.2.2) (b := 1) rfl rfl) ?_
          refine st (v := (B (o30.2.2 == 1))) (rv_pick_t (congrArg B hb41) rfl) ?_
          refine w_end ?_
          obtain rfl := Option.some.inj h
          exact ⟨rfl, _, σ37, fr_join ⟨rfl, rfl, rfl, rfl, rfl, rfl, rfl, rfl, rfl, rfl, trivial⟩, rfl, H.sel' [0] rfl rfl⟩
         ·replace h := bif_f hb41 h
          refine st_skip (congrArg some hb41) ?_
          refine st_skip (congrArg some hb41) ?_
          refine st (v := (B false)) (rv_pick_f (congrArg B hb41) rfl) ?_
          refine w_end ?_
          obtain rfl := Option.some.inj h
          exact ⟨rfl, _, σ37, fr_join ⟨rfl, rfl, rfl, rfl, rfl, rfl, rfl, rfl, rfl, rfl, trivial⟩, rfl, H.sel' [0] rfl rfl⟩
        ·replace h := bif_f hb40 h
         refine st_skip (congrArg some hb40) ?_
         refine st (v := (B false)) (rv_pick_f (congrArg B hb40) rfl) ?_
         refine st (v := (B false)) (rv_move rfl) ?_
         refine st_skip rfl ?_
         refine st_skip rfl ?_
         refine st (v := (B false)) (rv_pick_f rfl rfl) ?_
         refine w_end ?_
         obtain rfl := Option.some.inj h
         exact ⟨rfl, _, σ37, fr_join ⟨rfl, rfl, rfl, rfl, rfl, rfl, rfl, rfl, rfl, rfl, trivial⟩, rfl, H.sel' [0] rfl rfl⟩
       ·clear hj
        have h := h'
        clear h' H
        rintro e a w ⟨rfl, ρ, σ42, rfl, rfl, H⟩
        refine q_then ?_
        obtain ⟨o43, hj, h'⟩ := bind_some h
        clear h
        refine c_cut (fun e a w => (∃ t, o43 = (.inl t) ∧ e = .normal ∧ ∃ (ρ : Nat → Value) (σ : St), a = fr 148 (updL ρ [(0, (Sl adata_0 t cdata_0)), (1, (I s2.2.1)), (2, (I s2.2.2.1)), (3, (I o17.2)), (4, (.func (.func 101) #[] #[])), (10, (B s2.2.2.2.2.1)), (11, (B s2.2.2.2.2.2)), (12, (I (w64 (s2.2.2.1 - s2.2.1)))), (13, (I o30.2.1))]) ∧ w = σ.w ∧ Hp S0 σ0 σ [Ch.own 0 0 (Sl adata_0 t cdata_0) t] ∧ t.length = o30.1.length) ∨ (∃ t, o43 = (.inr t) ∧ e = .ret ∧ ∃ (ρ : Nat → Value) (σ : St), a = fr 148 (updL ρ [(0, (Sl adata_0 t cdata_0))]) ∧ w = σ.w ∧ Hp S0 σ0 σ [Ch.own 0 0 (Sl adata_0 t cdata_0) t] ∧ t.length = o30.1.length)) ?_ ?_
        ·clear h'
         rename _ = some o43 => h
         refine cd_cond o39 rfl (fun hb44 => ?_) (fun hb44 => ?_)
         ·replace h := bif_t hb44 h
          refine c_seq ?_
          refine rg ?_
          refine st (v := (Sl adata_0 o30.1 cdata_0)) (rv_move rfl) ?_
          refine st (v := (I s2.2.1)) (rv_move rfl) ?_
          refine st (v := (I s2.2.2.1)) (rv_move rfl) ?_
          refine st (v := (.func (.func 101) #[] #[])) (rv_move rfl) ?_
          obtain ⟨r45, hx46, h'⟩ := bind_some h
          clear h
          have h := h'; clear h'
          have hc47 := c_slices_partialInsertionSortCmpFunc_impl_Hit__impl_compareHits (adata_0 := adata_0) (cdata_0 := cdata_0) hx46
          refine st_call (cx_call hc47 (ent_f hc47.fn rfl) hn0 (show Hp S0 σ0 _ ([Ch.own 0 0 (Sl adata_0 o30.1 cdata_0) o30.1] ++ []) from (H.sel' [0] rfl rfl))) (wanted_none _ rfl _) ?_
          rintro _ σ49 ⟨_, ⟨rfl, rfl, hn48⟩, H, -⟩
          replace H : Hp S0 σ0 σ49 [Ch.own 0 0 (Sl adata_0 r45.2 cdata_0) r45.2] := H
          have hsl : (Sl adata_0 o30.1 cdata_0) = (Sl adata_0 r45.2 cdata_0) := sl_len hn48.symm
          try rw [hsl]
          try rw [hsl] at H
          clear hsl
          refine w_end ?_
          refine q_then ?_
          refine cd_cond r45.1 rfl (fun hb50 => ?_) (fun hb50 => ?_)
          ·replace h := bif_t hb50 h
           refine c_ret ?_
           obtain rfl := Option.some.inj h
           exact .inr (⟨_, rfl, rfl, _, σ49, fr_join ⟨rfl, trivial⟩, rfl, H.sel' [0] rfl rfl, ((hn48.trans (hn38.trans (hn25.trans hn4))).trans (hn38.trans (hn25.trans hn4)).symm)⟩)
          ·replace h := bif_f hb50 h
           refine c_skip ?_
           obtain rfl := Option.some.inj h
           exact .inl ⟨_, rfl, rfl, _, σ49, fr_join ⟨rfl, rfl, rfl, rfl, rfl, rfl, rfl, rfl, rfl, trivial⟩, rfl, H.sel' [0] rfl rfl, ((hn48.trans (hn38.trans (hn25.trans hn4))).trans (hn38.trans (hn25.trans hn4)).symm)⟩
         ·replace h := bif_f hb44 h
          refine c_skip ?_
          obtain rfl := Option.some.inj h
          exact .inl ⟨_, rfl, rfl, _, σ42, fr_join ⟨rfl, rfl, rfl, rfl, rfl, rfl, rfl, rfl, rfl, trivial⟩, rfl, H.sel' [0] rfl rfl, rfl⟩
        ·clear hj
         have h := h'
         clear h' H
         rintro e a w (⟨t51, rfl, rfl, ρ, σ52, rfl, rfl, H, hn53⟩ | ⟨t101, rfl, rfl, ρ, σ102, rfl, rfl, H, hn103⟩)
         ·replace h := selim_l h
          refine q_then ?_
          refine c_seq ?_
          refine c_seq ?_
          obtain ⟨o54, hj, h'⟩ := bind_some h
          clear h
          refine c_cut (fun e a w => e = .normal ∧ ∃ (ρ : Nat → Value) (σ : St), a = fr 148 (updL ρ [(0, (Sl adata_0 t51 cdata_0)), (1, (I s2.2.1)), (2, (I s2.2.2.1)), (3, (I o17.2)), (4, (.func (.func 101) #[] #[])), (10, (B s2.2.2.2.2.1)), (11, (B s2.2.2.2.2.2)), (12, (I (w64 (s2.2.2.1 - s2.2.1)))), (13, (I o30.2.1)), (97, (B o54))]) ∧ w = σ.w ∧ Hp S0 σ0 σ [Ch.own 0 0 (Sl adata_0 t51 cdata_0) t51]) ?_ ?_
          ·clear h'
           rename _ = some o54 => h
           refine rgP (σ := σ52) 13 (by kernel_rfl) (by kernel_rfl) (by kernel_rfl) ?_
           refine sq (v := (I s2.2.1)) (rv_move rfl) ?_
           refine sq (v := (B (decide (0 < s2.2.1)))) (rv_gtr (a := s2.2.1) (b := 0) rfl rfl) ?_
           refine sq (v := (B (decide (0 < s2.2.1)))) (rv_move rfl) ?_
           rcases Bool.eq_false_or_eq_true (decide (0 < s2.2.1)) with hb55 | hb55
           ·replace h := bif_t hb55 h
            refine sq_g (v := (.func (.func 101) #[] #[])) (congrArg some hb55) (rv_move rfl) ?_
            refine sq_g (v := (Sl adata_0 t51 cdata_0)) (congrArg some hb55) (rv_move rfl) ?_
            refine sq_g (v := (I s2.2.1)) (congrArg some hb55) (rv_move rfl) ?_
            refine sq_g (v := (I (w64 (s2.2.1 - 1)))) (congrArg some hb55) (rv_sub (a := s2.2.1) (b := 1) rfl rfl) ?_
            obtain ⟨x56, hx57, h'⟩ := bind_some h
            clear h
            have h := h'; clear h'
            obtain ⟨b59, o60, hi58, -⟩ := (H.own 0 rfl).ix hx57
            refine sq_g (v := (pt b59 o60)) (congrArg some hb55) (rv_ix Try.underlying27 ti64 rfl rfl hi58) ?_
            obtain ⟨_, ⟨_, _, rfl, rfl, rfl⟩, hl61, hc62⟩ := ((H.own 0 rfl).at hx57 hi58).cells
            refine sq_g (v := (.agg #[(I x56.1), (I x56.2)])) (congrArg some hb55) (rv_load Try.underlying64 rfl ti64 rfl hl61 hc62) ?_
            refine sq_g (v := (Sl adata_0 t51 cdata_0)) (congrArg some hb55) (rv_move rfl) ?_
            refine sq_g (v := (I o30.2.1)) (congrArg some hb55) (rv_move rfl) ?_
            obtain ⟨x63, hx64, h'⟩ := bind_some h
            clear h
            have h := h'; clear h'
            obtain ⟨b66, o67, hi65, -⟩ := (H.own 0 rfl).ix hx64
            refine sq_g (v := (pt b66 o67)) (congrArg some hb55) (rv_ix Try.underlying27 ti64 rfl rfl hi65) ?_
            obtain ⟨_, ⟨_, _, rfl, rfl, rfl⟩, hl68, hc69⟩ := ((H.own 0 rfl).at hx64 hi65).cells
            refine sq_g (v := (.agg #[(I x63.1), (I x63.2)])) (congrArg some hb55) (rv_load Try.underlying64 rfl ti64 rfl hl68 hc69) ?_
            refine sq_end ?_
            intro σ70 hm71
            replace H := H.grow (hm71.mono fun _ h => h); clear hm71
            obtain ⟨r72, hx73, h'⟩ := bind_some h
            clear h
            have h := h'; clear h'
            have hc74 := c_impl_compareHits hx73
            refine st_call (cx_call hc74 (ent_v (cap := []) hc74.fn rfl rfl) hn0 (show Hp S0 σ0 _ ([] ++ [Ch.own 0 0 (Sl adata_0 t51 cdata_0) t51]) from (H.sel' [0] rfl rfl))) (wanted_yes rfl (by exact (congrArg some hb55))) ?_
            rintro _ σ75 ⟨_, ⟨rfl, rfl⟩, H, -⟩
            replace H : Hp S0 σ0 σ75 [Ch.own 0 0 (Sl adata_0 t51 cdata_0) t51] := H
            refine st_g (v := (B (decide (r72 < 0)))) (congrArg some hb55) (rv_lss (a := r72) (b := 0) rfl rfl) ?_
            refine st_g (v := (B (!(decide (r72 < 0))))) (congrArg some hb55) (rv_not rfl) ?_
            refine st (v := (B (!(decide (r72 < 0))))) (rv_pick_t (congrArg B hb55) rfl) ?_
            refine w_end ?_
            obtain rfl := Option.some.inj h
            exact ⟨rfl, _, σ75, fr_join ⟨rfl, rfl, rfl, rfl, rfl, rfl, rfl, rfl, rfl, rfl, trivial⟩, rfl, H.sel' [0] rfl rfl⟩
           ·replace h := bif_f hb55 h
            refine sq_skip (congrArg some hb55) ?_
            refine sq_skip (congrArg some hb55) ?_
            refine sq_skip (congrArg some hb55) ?_
            refine sq_skip (congrArg some hb55) ?_
            refine sq_skip (congrArg some hb55) ?_
            refine sq_skip (congrArg some hb55) ?_
            refine sq_skip (congrArg some hb55) ?_
            refine sq_skip (congrArg some hb55) ?_
            refine sq_skip (congrArg some hb55) ?_
            refine sq_skip (congrArg some hb55) ?_
            refine sq_end ?_
            intro σ76 hm77
            replace H := H.grow (hm77.mono fun _ h => h); clear hm77
            refine st_skip (congrArg some hb55) ?_
            refine st_skip (congrArg some hb55) ?_
            refine st_skip (congrArg some hb55) ?_
            refine st (v := (B false)) (rv_pick_f (congrArg B hb55) rfl) ?_
            refine w_end ?_
            obtain rfl := Option.some.inj h
            exact ⟨rfl, _, σ76, fr_join ⟨rfl, rfl, rfl, rfl, rfl, rfl, rfl, rfl, rfl, rfl, trivial⟩, rfl, H.sel' [0] rfl rfl⟩
          ·clear hj
           have h := h'
           clear h' H
           rintro e a w ⟨rfl, ρ, σ78, rfl, rfl, H⟩
           refine q_then ?_
           refine cd_cond o54 rfl (fun hb79 => ?_) (fun hb79 => ?_)
           ·replace h := bif_t hb79 h
            refine c_seq ?_
            refine rg ?_
            refine st (v := (Sl adata_0 t51 cdata_0)) (rv_move rfl) ?_
            refine st (v := (I s2.2.1)) (rv_move rfl) ?_
            refine st (v := (I s2.2.2.1)) (rv_move rfl) ?_
            refine st (v := (I o30.2.1)) (rv_move rfl) ?_
            refine st (v := (.func (.func 101) #[] #[])) (rv_move rfl) ?_
            obtain ⟨r80, hx81, h'⟩ := bind_some h
            clear h
            have h := h'; clear h'
            have hc82 := c_slices_partitionEqualCmpFunc_impl_Hit__impl_compareHits (adata_0 := adata_0) (cdata_0 := cdata_0) hx81
            refine st_call (cx_call hc82 (ent_f hc82.fn rfl) hn0 (show Hp S0 σ0 _ ([Ch.own 0 0 (Sl adata_0 t51 cdata_0) t51] ++ []) from (H.sel' [0] rfl rfl))) (wanted_none _ rfl _) ?_
            rintro _ σ84 ⟨_, ⟨rfl, rfl, hn83⟩, H, -⟩
            replace H : Hp S0 σ0 σ84 [Ch.own 0 0 (Sl adata_0 r80.2 cdata_0) r80.2] := H
            have hsl : (Sl adata_0 t51 cdata_0) = (Sl adata_0 r80.2 cdata_0) := sl_len hn83.symm
            try rw [hsl]
            try rw [hsl] at H
            clear hsl
            refine st (v := (I r80.1)) (rv_assign rfl) ?_
            refine w_end ?_
            refine q_then ?_
            refine c_seq ?_
            refine rg ?_
            refine st (v := (I r80.1)) (rv_move rfl) ?_
            refine st (v := (I r80.1)) (rv_assign rfl) ?_
            refine w_end ?_
            refine q_then ?_
            refine c_exit ?_
            refine q_then_x ?_
            refine q_blk_hit ?_
            refine q_then ?_
            obtain rfl := Option.some.inj h
            exact ⟨_, rfl, _, σ84, fr_join ⟨rfl, rfl, rfl, rfl, rfl, rfl, rfl, trivial⟩, rfl, H.sel' [0] rfl rfl, (hn83.trans (hn53.trans (hn38.trans (hn25.trans hn4))))⟩
           ·replace h := bif_f hb79 h
            refine c_skip ?_
            refine q_then ?_
            refine c_seq ?_
            refine rg ?_
            refine st (v := (Sl adata_0 t51 cdata_0)) (rv_move rfl) ?_
            refine st (v := (I s2.2.1)) (rv_move rfl) ?_
            refine st (v := (I s2.2.2.1)) (rv_move rfl) ?_
            refine st (v := (I o30.2.1)) (rv_move rfl) ?_
            refine st (v := (.func (.func 101) #[] #[])) (rv_move rfl) ?_
            obtain ⟨r85, hx86, h'⟩ := bind_some h
            clear h
            have h := h'; clear h'
            have hc87 := c_slices_partitionCmpFunc_impl_Hit__impl_compareHits (adata_0 := adata_0) (cdata_0 := cdata_0) hx86
            refine st_call (cx_call hc87 (ent_f hc87.fn rfl) hn0 (show Hp S0 σ0 _ ([Ch.own 0 0 (Sl adata_0 t51 cdata_0) t51] ++ []) from (H.sel' [0] rfl rfl))) (wanted_none _ rfl _) ?_
            rintro _ σ89 ⟨_, ⟨rfl, rfl, hn88⟩, H, -⟩
            replace H : Hp S0 σ0 σ89 [Ch.own 0 0 (Sl adata_0 r85.2.2 cdata_0) r85.2.2] := H
            have hsl : (Sl adata_0 t51 cdata_0) = (Sl adata_0 r85.2.2 cdata_0) := sl_len hn88.symm
            try rw [hsl]
            try rw [hsl] at H
            clear hsl
            refine st (v := (.tuple #[(I r85.1), (B r85.2.1)])) (rv_move rfl) ?_
            refine st (v := (I r85.1)) (rv_extract rfl rfl) ?_
            refine st (v := (B r85.2.1)) (rv_extract rfl rfl) ?_
            refine st (v := (I r85.1)) (rv_assign rfl) ?_
            refine st (v := (B r85.2.1)) (rv_assign rfl) ?_
            refine w_end ?_
            refine q_then ?_
            refine c_seq ?_
            refine rg ?_
            refine st (v := (B r85.2.1)) (rv_move rfl) ?_
            refine st (v := (B r85.2.1)) (rv_assign rfl) ?_
            refine w_end ?_
            refine q_then ?_
            refine c_seq ?_
            refine rg ?_
            refine st (v := (I r85.1)) (rv_move rfl) ?_
            refine st (v := (I s2.2.1)) (rv_move rfl) ?_
            refine st (v := (I (w64 (r85.1 - s2.2.1)))) (rv_sub (a := r85.1) (b := s2.2.1) rfl rfl) ?_
            refine st (v := (I s2.2.2.1)) (rv_move rfl) ?_
            refine st (v := (I r85.1)) (rv_move rfl) ?_
            refine st (v := (I (w64 (s2.2.2.1 - r85.1)))) (rv_sub (a := s2.2.2.1) (b := r85.1) rfl rfl) ?_
            refine st (v := (I (w64 (r85.1 - s2.2.1)))) (rv_assign rfl) ?_
            refine st (v := (I (w64 (s2.2.2.1 - r85.1)))) (rv_assign rfl) ?_
            refine w_end ?_
            refine q_then ?_
            refine c_seq ?_
            refine rg ?_
            refine st (v := (I (w64 (s2.2.2.1 - s2.2.1)))) (rv_move rfl) ?_
            refine st (v := (I (w64 ((w64 (s2.2.2.1 - s2.2.1)).tdiv 8)))) (rv_quo (a := (w64 (s2.2.2.1 - s2.2.1))) (b := 8) rfl rfl (by decide)) ?_
            refine st (v := (I (w64 ((w64 (s2.2.2.1 - s2.2.1)).tdiv 8)))) (rv_assign rfl) ?_
            refine w_end ?_
            refine q_then ?_
            refine c_seq ?_
            refine rg ?_
            refine st (v := (I (w64 (r85.1 - s2.2.1)))) (rv_move rfl) ?_
            refine st (v := (I (w64 (s2.2.2.1 - r85.1)))) (rv_move rfl) ?_
            refine st (v := (B (decide ((w64 (r85.1 - s2.2.1)) < (w64 (s2.2.2.1 - r85.1)))))) (rv_lss (a := (w64 (r85.1 - s2.2.1))) (b := (w64 (s2.2.2.1 - r85.1))) rfl rfl) ?_
            refine w_end ?_
            refine q_then ?_
            refine cd_cond (decide ((w64 (r85.1 - s2.2.1)) < (w64 (s2.2.2.1 - r85.1)))) rfl (fun hb90 => ?_) (fun hb90 => ?_)
            ·replace h := bif_t hb90 h
             refine c_seq ?_
             refine rg ?_
             refine st (v := (I (w64 (r85.1 - s2.2.1)))) (rv_move rfl) ?_
             refine st (v := (I (w64 ((w64 (s2.2.2.1 - s2.2.1)).tdiv 8)))) (rv_move rfl) ?_
             refine st (v := (B (decide ((w64 ((w64 (s2.2.2.1 - s2.2.1)).tdiv 8)) ≤ (w64 (r85.1 - s2.2.1)))))) (rv_geq (a := (w64 (r85.1 - s2.2.1))) (b := (w64 ((w64 (s2.2.2.1 - s2.2.1)).tdiv 8))) rfl rfl) ?_
             refine st (v := (B (decide ((w64 ((w64 (s2.2.2.1 - s2.2.1)).tdiv 8)) ≤ (w64 (r85.1 - s2.2.1)))))) (rv_assign rfl) ?_
             refine w_end ?_
             refine q_then ?_
             refine c_seq ?_
             refine rg ?_
             refine st (v := (Sl adata_0 r85.2.2 cdata_0)) (rv_move rfl) ?_
             refine st (v := (I s2.2.1)) (rv_move rfl) ?_
             refine st (v := (I r85.1)) (rv_move rfl) ?_
             refine st (v := (I o17.2)) (rv_move rfl) ?_
             refine st (v := (.func (.func 101) #[] #[])) (rv_move rfl) ?_
             obtain ⟨r91, hx92, h'⟩ := bind_some h
             clear h
             have h := h'; clear h'
             have hc93 := ih (adata_0 := adata_0) (cdata_0 := cdata_0) hx92
             refine st_call (cx_call hc93 (ent_f hc93.fn rfl) hn0 (show Hp S0 σ0 _ ([Ch.own 0 0 (Sl adata_0 r85.2.2 cdata_0) r85.2.2] ++ []) from (H.sel' [0] rfl rfl))) (wanted_none _ rfl _) ?_
             rintro _ σ95 ⟨_, ⟨rfl, rfl, hn94⟩, H, -⟩
             replace H : Hp S0 σ0 σ95 [Ch.own 0 0 (Sl adata_0 r91 cdata_0) r91] := H
             have hsl : (Sl adata_0 r85.2.2 cdata_0) = (Sl adata_0 r91 cdata_0) := sl_len hn94.symm
             try rw [hsl]
             try rw [hsl] at H
             clear hsl
             refine w_end ?_
             refine q_then ?_
             refine rg ?_
             refine st (v := (I r85.1)) (rv_move rfl) ?_
             refine st (v := (I (w64 (r85.1 + 1)))) (rv_add (a := r85.1) (b := 1) rfl rfl) ?_
             refine st (v := (I (w64 (r85.1 + 1)))) (rv_assign rfl) ?_
             refine w_end ?_
             refine q_blk ?_
             refine q_then ?_
             obtain rfl := Option.some.inj h
             exact ⟨_, rfl, _, σ95, fr_join ⟨rfl, rfl, rfl, rfl, rfl, rfl, rfl, trivial⟩, rfl, H.sel' [0] rfl rfl, (hn94.trans (hn88.trans (hn53.trans (hn38.trans (hn25.trans hn4)))))⟩
            ·replace h := bif_f hb90 h
             refine c_seq ?_
             refine rg ?_
             refine st (v := (I (w64 (s2.2.2.1 - r85.1)))) (rv_move rfl) ?_
             refine st (v := (I (w64 ((w64 (s2.2.2.1 - s2.2.1)).tdiv 8)))) (rv_move rfl) ?_
             refine st (v := (B (decide ((w64 ((w64 (s2.2.2.1 - s2.2.1)).tdiv 8)) ≤ (w64 (s2.2.2.1 - r85.1)))))) (rv_geq (a := (w64 (s2.2.2.1 - r85.1))) (b := (w64 ((w64 (s2.2.2.1 - s2.2.1)).tdiv 8))) rfl rfl) ?_
             refine st (v := (B (decide ((w64 ((w64 (s2.2.2.1 - s2.2.1)).tdiv 8)) ≤ (w64 (s2.2.2.1 - r85.1)))))) (rv_assign rfl) ?_
             refine w_end ?_
             refine q_then ?_
             refine c_seq ?_
             refine rg ?_
             refine st (v := (Sl adata_0 r85.2.2 cdata_0)) (rv_move rfl) ?_
             refine st (v := (I r85.1)) (rv_move rfl) ?_
             refine st (v := (I (w64 (r85.1 + 1)))) (rv_add (a := r85.1) (b := 1) rfl rfl) ?_
             refine st (v := (I s2.2.2.1)) (rv_move rfl) ?_
             refine st (v := (I o17.2)) (rv_move rfl) ?_
             refine st (v := (.func (.func 101) #[] #[])) (rv_move rfl) ?_
             obtain ⟨r96, hx97, h'⟩ := bind_some h
             clear h
             have h := h'; clear h'
             have hc98 := ih (adata_0 := adata_0) (cdata_0 := cdata_0) hx97
             refine st_call (cx_call hc98 (ent_f hc98.fn rfl) hn0 (show Hp S0 σ0 _ ([Ch.own 0 0 (Sl adata_0 r85.2.2 cdata_0) r85.2.2] ++ []) from (H.sel' [0] rfl rfl))) (wanted_none _ rfl _) ?_
             rintro _ σ100 ⟨_, ⟨rfl, rfl, hn99⟩, H, -⟩
             replace H : Hp S0 σ0 σ100 [Ch.own 0 0 (Sl adata_0 r96 cdata_0) r96] := H
             have hsl : (Sl adata_0 r85.2.2 cdata_0) = (Sl adata_0 r96 cdata_0) := sl_len hn99.symm
             try rw [hsl]
             try rw [hsl] at H
             clear hsl
             refine w_end ?_
             refine q_then ?_
             refine rg ?_
             refine st (v := (I r85.1)) (rv_move rfl) ?_
             refine st (v := (I r85.1)) (rv_assign rfl) ?_
             refine w_end ?_
             refine q_blk ?_
             refine q_then ?_
             obtain rfl := Option.some.inj h
             exact ⟨_, rfl, _, σ100, fr_join ⟨rfl, rfl, rfl, rfl, rfl, rfl, rfl, trivial⟩, rfl, H.sel' [0] rfl rfl, (hn99.trans (hn88.trans (hn53.trans (hn38.trans (hn25.trans hn4)))))⟩
         ·replace h := selim_r h
          refine q_then_r ?_
          refine q_blk_r ?_
          refine q_then_r ?_
          refine q_blk_r ?_
          obtain rfl := Option.some.inj h
          obtain rfl := hres _ rfl
          exact ⟨rfl, _, σ102, fr_join ⟨rfl, trivial⟩, rfl, H.sel' [0] rfl rfl, (hn103.trans (hn38.trans (hn25.trans hn4)))⟩
  ·clear hj
   have h := h'
   clear h' H
   rintro e a w ⟨rfl, ρ, σ104, rfl, rfl, H, hn105⟩
   obtain rfl := Option.some.inj h
   exact fin_ret (v := (.tuple #[])) (results_ok Try.results130 res_nil rfl) ⟨rfl, rfl, hn105⟩ (H.sel' [0] rfl rfl)

theorem c_slices_SortFunc_impl_Hit_impl_Hit__impl_compareHits {x_0 : List (Int × Int)} {ax_0 : Option Addr} {cx_0 : Nat} {r : (List (Int × Int))} (h : M.slices_SortFunc_impl_Hit_impl_Hit__impl_compareHits x_0 = some r) :
    Cal2 Try.prog 120 [(Sl ax_0 x_0 cx_0), (.func (.func 101) #[] #[])] [Ch.own 0 0 (Sl ax_0 x_0 cx_0) x_0] (fun n0 v L => v = (.tuple #[]) ∧ L = [Ch.own 0 0 (Sl ax_0 r cx_0) r] ∧ r.length = x_0.length) := by
 refine cal2 (n := 14) Try.func120 rfl rfl rfl rfl ?_
 intro S0 σ0 n0 hn0 H
 unfold M.slices_SortFunc_impl_Hit_impl_Hit__impl_compareHits at h
 refine c_seq ?_
 refine rg ?_
 refine st (v := (Sl ax_0 x_0 cx_0)) (rv_move rfl) ?_
 refine st (v := (I (x_0.length : Int))) (rv_len Try.underlying27 rfl) ?_
 refine st (v := (I (x_0.length : Int))) (rv_assign rfl) ?_
 refine w_end ?_
 refine q_then ?_
 refine rg ?_
 refine st (v := (Sl ax_0 x_0 cx_0)) (rv_move rfl) ?_
 refine st (v := (I (x_0.length : Int))) (rv_move rfl) ?_
 refine st (v := (I (x_0.length : Int))) (rv_move rfl) ?_
 refine st (v := (.int .u64 (wk .u64 (x_0.length : Int)))) (rvk_conv (k := .i64) (k' := .u64) (a := (x_0.length : Int)) Try.underlying3 Try.underlying150 rfl) ?_
 obtain ⟨r1, hx2, h'⟩ := bind_some h
 clear h
 have h := h'; clear h'
 have hc3 := c_math_bits_Len hx2
 refine st_call (cx_call hc3 (ent_f hc3.fn rfl) hn0 (show Hp S0 σ0 _ ([] ++ [Ch.own 0 0 (Sl ax_0 x_0 cx_0) x_0]) from (H.sel' [0] rfl rfl))) (wanted_none _ rfl _) ?_
 rintro _ σ4 ⟨_, ⟨rfl, rfl⟩, H, -⟩
 replace H : Hp S0 σ0 σ4 [Ch.own 0 0 (Sl ax_0 x_0 cx_0) x_0] := H
 refine st (v := (.func (.func 101) #[] #[])) (rv_move rfl) ?_
 obtain ⟨r5, hx6, h'⟩ := bind_some h
 clear h
 have h := h'; clear h'
 have hc7 := c_slices_pdqsortCmpFunc_impl_Hit__impl_compareHits 100 (adata_0 := ax_0) (cdata_0 := cx_0) hx6
 refine st_call (cx_call hc7 (ent_f hc7.fn rfl) hn0 (show Hp S0 σ0 _ ([Ch.own 0 0 (Sl ax_0 x_0 cx_0) x_0] ++ []) from (H.sel' [0] rfl rfl))) (wanted_none _ rfl _) ?_
 rintro _ σ9 ⟨_, ⟨rfl, rfl, hn8⟩, H, -⟩
 replace H : Hp S0 σ0 σ9 [Ch.own 0 0 (Sl ax_0 r5 cx_0) r5] := H
 have hsl : (Sl ax_0 x_0 cx_0) = (Sl ax_0 r5 cx_0) := sl_len hn8.symm
 try rw [hsl]
 try rw [hsl] at H
 clear hsl
 refine w_end ?_
 obtain rfl := Option.some.inj h
 exact fin_end (v := (.tuple #[])) (results_ok Try.results120 res_nil rfl) ⟨rfl, rfl, hn8⟩ (H.sel' [0] rfl rfl)

theorem c_slices_SortedFunc_impl_Hit__slices_Values_impl_hitHeap_impl_Hit_1__impl_compareHits {seq_0_0 : List (Int × Int)} {aseq_0_0 : Option Addr} {cseq_0_0 : Nat} {loseq_0_0 bseq_0_0 oseq_0_0 : Nat} {preseq_0_0 sufseq_0_0 : List Value} {r : (List (Int × Int))} (h : M.slices_SortedFunc_impl_Hit__slices_Values_impl_hitHeap_impl_Hit_1__impl_compareHits seq_0_0 = some r) :
    Cal2 Try.prog 99 [(.func (.func 121) #[] #[(pt bseq_0_0 oseq_0_0)]), (.func (.func 101) #[] #[])] [Ch.bx loseq_0_0 bseq_0_0 oseq_0_0 [(Sl aseq_0_0 seq_0_0 cseq_0_0)] preseq_0_0 sufseq_0_0, Ch.ro 0 (Sl aseq_0_0 seq_0_0 cseq_0_0) seq_0_0] (fun n0 v L => ∃ (az1 : Option Addr), ∃ (cz2 : Nat), v = (Sl az1 r cz2) ∧ L = [Ch.own 0 n0 (Sl az1 r cz2) r, Ch.bx loseq_0_0 bseq_0_0 oseq_0_0 [(Sl aseq_0_0 seq_0_0 cseq_0_0)] preseq_0_0 sufseq_0_0]) := by
 refine cal2 (n := 12) Try.func99 rfl rfl rfl rfl ?_
 intro S0 σ0 n0 hn0 H
 unfold M.slices_SortedFunc_impl_Hit__slices_Values_impl_hitHeap_impl_Hit_1__impl_compareHits at h
 refine c_seq ?_
 refine rg ?_
 refine st (v := (.slice none 0 0)) (rv_assign rfl) ?_
 refine w_end ?_
 refine q_then ?_
 refine c_seq ?_
 refine rg ?_
 refine st (v := (.func (.func 121) #[] #[(pt bseq_0_0 oseq_0_0)])) (rv_move rfl) ?_
 obtain ⟨r1, hx2, h'⟩ := bind_some h
 clear h
 have h := h'; clear h'
 have hc3 := c_slices_Collect_impl_Hit__slices_Values_impl_hitHeap_impl_Hit_1 (loseq_0_0 := loseq_0_0) (bseq_0_0 := bseq_0_0) (oseq_0_0 := oseq_0_0) (preseq_0_0 := preseq_0_0) (sufseq_0_0 := sufseq_0_0) (aseq_0_0 := aseq_0_0) (cseq_0_0 := cseq_0_0) hx2
 refine st_call (cx_call hc3 (ent_f hc3.fn rfl) hn0 (show Hp S0 σ0 _ ([Ch.bx loseq_0_0 bseq_0_0 oseq_0_0 [(Sl aseq_0_0 seq_0_0 cseq_0_0)] preseq_0_0 sufseq_0_0, Ch.ro 0 (Sl aseq_0_0 seq_0_0 cseq_0_0) seq_0_0] ++ [Ch.ro 0 (Sl aseq_0_0 seq_0_0 cseq_0_0) seq_0_0]) from (H.sel' [0, 1, 1] rfl rfl))) (wanted_none _ rfl _) ?_
 rintro _ σ6 ⟨_, ⟨a4, c5, rfl, rfl⟩, H, -⟩
 replace H : Hp S0 σ0 σ6 [Ch.own n0 n0 (Sl a4 r1 c5) r1, Ch.bx loseq_0_0 bseq_0_0 oseq_0_0 [(Sl aseq_0_0 seq_0_0 cseq_0_0)] preseq_0_0 sufseq_0_0, Ch.ro 0 (Sl aseq_0_0 seq_0_0 cseq_0_0) seq_0_0] := H
 refine st (v := (Sl a4 r1 c5)) (rv_assign rfl) ?_
 refine w_end ?_
 refine q_then ?_
 refine c_seq ?_
 refine rg ?_
 refine st (v := (Sl a4 r1 c5)) (rv_move rfl) ?_
 refine st (v := (.func (.func 101) #[] #[])) (rv_move rfl) ?_
 replace H := H.ownLow 0 0 0 rfl (Nat.zero_le _) (Nat.zero_le _)
 obtain ⟨r7, hx8, h'⟩ := bind_some h
 clear h
 have h := h'; clear h'
 have hc9 := c_slices_SortFunc_impl_Hit_impl_Hit__impl_compareHits (ax_0 := a4) (cx_0 := c5) hx8
 refine st_call (cx_call hc9 (ent_f hc9.fn rfl) hn0 (show Hp S0 σ0 _ ([Ch.own 0 0 (Sl a4 r1 c5) r1] ++ [Ch.bx loseq_0_0 bseq_0_0 oseq_0_0 [(Sl aseq_0_0 seq_0_0 cseq_0_0)] preseq_0_0 sufseq_0_0, Ch.ro 0 (Sl aseq_0_0 seq_0_0 cseq_0_0) seq_0_0]) from (H.sel' [0, 1, 2] rfl rfl))) (wanted_none _ rfl _) ?_
 rintro _ σ11 ⟨_, ⟨rfl, rfl, hn10⟩, H, -⟩
 replace H : Hp S0 σ0 σ11 [Ch.own 0 0 (Sl a4 r7 c5) r7, Ch.bx loseq_0_0 bseq_0_0 oseq_0_0 [(Sl aseq_0_0 seq_0_0 cseq_0_0)] preseq_0_0 sufseq_0_0, Ch.ro 0 (Sl aseq_0_0 seq_0_0 cseq_0_0) seq_0_0] := H
 have hsl : (Sl a4 r1 c5) = (Sl a4 r7 c5) := sl_len hn10.symm
 try rw [hsl]
 try rw [hsl] at H
 clear hsl
 refine w_end ?_
 refine q_then ?_
 refine c_seq ?_
 refine rg ?_
 refine st (v := (Sl a4 r7 c5)) (rv_move rfl) ?_
 refine st (v := (Sl a4 r7 c5)) (rv_assign rfl) ?_
 refine w_end ?_
 refine q_then ?_
 refine c_ret ?_
 replace H := H.ownSc 0 0 n0 rfl (Nat.le_refl _)
 obtain rfl := Option.some.inj h
 exact fin_ret (v := (Sl a4 r7 c5)) (results_ok Try.results99 (res_tmp (v := (Sl a4 r7 c5)) rfl res_nil) rfl) ⟨a4, c5, rfl, rfl⟩ (H.sel' [0, 1] rfl rfl)

theorem c_impl_nearestHits_inOrder {n_0 : Int × (List (Int × Int))} {an_0_1 : Option Addr} {cn_0_1 : Nat} {lon_0 bn_0 on_0 : Nat} {pren_0 sufn_0 : List Value} {r : (List (Int × Int))} (h : M.impl_nearestHits_inOrder n_0 = some r) :
    Cal2 Try.prog 70 [(pt bn_0 on_0)] [Ch.bx lon_0 bn_0 on_0 [(I n_0.1), (Sl an_0_1 n_0.2 cn_0_1)] pren_0 sufn_0, Ch.ro 0 (Sl an_0_1 n_0.2 cn_0_1) n_0.2] (fun n0 v L => ∃ (az1 : Option Addr), ∃ (cz2 : Nat), v = (Sl az1 r cz2) ∧ L = [Ch.own 0 n0 (Sl az1 r cz2) r, Ch.bx lon_0 bn_0 on_0 [(I n_0.1), (Sl an_0_1 n_0.2 cn_0_1)] pren_0 sufn_0]) := by
 refine cal2 (n := 9) Try.func70 rfl rfl rfl rfl ?_
 intro S0 σ0 n0 hn0 H
 unfold M.impl_nearestHits_inOrder at h
 refine c_seq ?_
 refine rg ?_
 refine st (v := (.slice none 0 0)) (rv_assign rfl) ?_
 refine w_end ?_
 refine q_then ?_
 refine c_seq ?_
 refine rg ?_
 refine st (v := (pt bn_0 on_0)) (rv_move rfl) ?_
 refine st (v := (pt bn_0 on_0)) (rv_nilCheck rfl) ?_
 refine st (v := (pt bn_0 (on_0 + 1))) (rv_fieldAddr (off := 1) (ft := 79) Try.underlying81 rfl ti79 rfl rfl) ?_
 have hc1 := H.cell (u := (Sl an_0_1 n_0.2 cn_0_1)) (o' := (on_0 + 1)) 0 1 rfl rfl rfl
 refine st (v := (Sl an_0_1 n_0.2 cn_0_1)) (rv_load1 Try.underlying79 rfl rfl hc1) ?_
 obtain ⟨r2, hx3, h'⟩ := bind_some h
 clear h
 have h := h'; clear h'
 have hc4 := c_slices_Values_impl_hitHeap_impl_Hit (as_0 := an_0_1) (cs_0 := cn_0_1) hx3
 refine st_call (cx_call hc4 (ent_f hc4.fn rfl) hn0 (show Hp S0 σ0 _ ([Ch.ro 0 (Sl an_0_1 n_0.2 cn_0_1) n_0.2] ++ [Ch.bx lon_0 bn_0 on_0 [(I n_0.1), (Sl an_0_1 n_0.2 cn_0_1)] pren_0 sufn_0, Ch.ro 0 (Sl an_0_1 n_0.2 cn_0_1) n_0.2]) from (H.sel' [1, 0, 1] rfl rfl))) (wanted_none _ rfl _) ?_
 rintro _ σ6 ⟨_, ⟨b5, rfl, rfl⟩, H, -⟩
 replace H : Hp S0 σ0 σ6 [Ch.bx n0 b5 0 [(Sl an_0_1 n_0.2 cn_0_1)] [] [], Ch.bx lon_0 bn_0 on_0 [(I n_0.1), (Sl an_0_1 n_0.2 cn_0_1)] pren_0 sufn_0, Ch.ro 0 (Sl an_0_1 n_0.2 cn_0_1) n_0.2] := H
 obtain ⟨r7, hx8, h'⟩ := bind_some h
 clear h
 have h := h'; clear h'
 have hc9 := c_slices_SortedFunc_impl_Hit__slices_Values_impl_hitHeap_impl_Hit_1__impl_compareHits (loseq_0_0 := n0) (bseq_0_0 := b5) (oseq_0_0 := 0) (preseq_0_0 := []) (sufseq_0_0 := []) (aseq_0_0 := an_0_1) (cseq_0_0 := cn_0_1) hx8
 refine st_call (cx_call hc9 (ent_f hc9.fn rfl) hn0 (show Hp S0 σ0 _ ([Ch.bx n0 b5 0 [(Sl an_0_1 n_0.2 cn_0_1)] [] [], Ch.ro 0 (Sl an_0_1 n_0.2 cn_0_1) n_0.2] ++ [Ch.bx lon_0 bn_0 on_0 [(I n_0.1), (Sl an_0_1 n_0.2 cn_0_1)] pren_0 sufn_0, Ch.ro 0 (Sl an_0_1 n_0.2 cn_0_1) n_0.2]) from (H.sel' [0, 2, 1, 2] rfl rfl))) (wanted_none _ rfl _) ?_
 rintro _ σ12 ⟨_, ⟨a10, c11, rfl, rfl⟩, H, -⟩
 replace H : Hp S0 σ0 σ12 [Ch.own 0 n0 (Sl a10 r7 c11) r7, Ch.bx n0 b5 0 [(Sl an_0_1 n_0.2 cn_0_1)] [] [], Ch.bx lon_0 bn_0 on_0 [(I n_0.1), (Sl an_0_1 n_0.2 cn_0_1)] pren_0 sufn_0, Ch.ro 0 (Sl an_0_1 n_0.2 cn_0_1) n_0.2] := H
 refine st (v := (Sl a10 r7 c11)) (rv_assign rfl) ?_
 refine w_end ?_
 refine q_then ?_
 refine c_ret ?_
 obtain rfl := Option.some.inj h
 exact fin_ret (v := (Sl a10 r7 c11)) (results_ok Try.results70 (res_tmp (v := (Sl a10 r7 c11)) rfl res_nil) rfl) ⟨a10, c11, rfl, rfl⟩ (H.sel' [0, 2] rfl rfl)

theorem c_impl_Nearest {list_0 : List (Int × (List Int) × Int)} {kind_1 : Int} {at_2 : List Int} {k_3 : Int} {alist_0 : Option Addr} {clist_0 : Nat} {aat_2 : Option Addr} {cat_2 : Nat} {r : (List (Int × Int))} (h : M.impl_Nearest list_0 kind_1 at_2 k_3 = some r) :
    Cal2 Try.prog 29 [(Sl alist_0 list_0 clist_0), (I kind_1), (Sl aat_2 at_2 cat_2), (I k_3)] [Ch.ro 0 (Sl alist_0 list_0 clist_0) list_0, Ch.ro 0 (Sl aat_2 at_2 cat_2) at_2] (fun n0 v L => ∃ (az1 : Option Addr), ∃ (cz2 : Nat), v = (Sl az1 r cz2) ∧ L = [Ch.own 0 n0 (Sl az1 r cz2) r]) := by
 refine cal2 (n := 33) Try.func29 rfl rfl rfl rfl ?_
 intro S0 σ0 n0 hn0 H
 unfold M.impl_Nearest at h
 refine c_seq ?_
 refine rg ?_
 refine st (v := (.slice none 0 0)) (rv_assign rfl) ?_
 refine w_end ?_
 refine q_then ?_
 refine c_seq ?_
 refine c_seq ?_
 refine rg ?_
 refine st (v := (Sl alist_0 list_0 clist_0)) (rv_move rfl) ?_
 refine st (v := (I kind_1)) (rv_move rfl) ?_
 refine st (v := (Sl aat_2 at_2 cat_2)) (rv_move rfl) ?_
 refine st (v := (I k_3)) (rv_move rfl) ?_
 obtain ⟨r1, hx2, h'⟩ := bind_some h
 clear h
 have h := h'; clear h'
 have hc3 := c_impl_validSearch (alist_0 := alist_0) (clist_0 := clist_0) (aat_2 := aat_2) (cat_2 := cat_2) hx2
 refine st_call (cx_call hc3 (ent_f hc3.fn rfl) hn0 (show Hp S0 σ0 _ ([Ch.ro 0 (Sl alist_0 list_0 clist_0) list_0, Ch.ro 0 (Sl aat_2 at_2 cat_2) at_2] ++ [Ch.ro 0 (Sl alist_0 list_0 clist_0) list_0, Ch.ro 0 (Sl aat_2 at_2 cat_2) at_2]) from (H.sel' [0, 1, 0, 1] rfl rfl))) (wanted_none _ rfl _) ?_
 rintro _ σ4 ⟨_, ⟨rfl, rfl⟩, H, -⟩
 replace H : Hp S0 σ0 σ4 [Ch.ro 0 (Sl alist_0 list_0 clist_0) list_0, Ch.ro 0 (Sl aat_2 at_2 cat_2) at_2] := H
 refine st (v := (B (!r1))) (rv_not rfl) ?_
 refine w_end ?_
 refine q_then ?_
 refine cd_cond (!r1) rfl (fun hb5 => ?_) (fun hb5 => ?_)
 ·replace h := bif_t hb5 h
  refine c_seq ?_
  refine rg ?_
  refine st (v := (.slice none 0 0)) (rv_assign rfl) ?_
  refine w_end ?_
  refine q_then ?_
  refine c_ret ?_
  refine q_then_r ?_
  replace H := H.nilOwn (Int × Int) 0 n0
  obtain rfl := Option.some.inj h
  exact fin_ret (v := (.slice none 0 0)) (results_ok Try.results29 (res_tmp (v := (.slice none 0 0)) rfl res_nil) rfl) ⟨none, 0, rfl, rfl⟩ (H.sel' [0] rfl rfl)
 ·replace h := bif_f hb5 h
  refine c_skip ?_
  refine q_then ?_
  refine c_seq ?_
  refine rg ?_
  refine st (v := (I k_3)) (rv_move rfl) ?_
  refine st (v := (.agg #[(I k_3), (.slice none 0 0)])) (rv_build (ps := [(0, (I k_3))]) Try.underlying81 ti81 (bp81 Try.underlying81) rfl (by kernel_rfl)) ?_
  refine st_ex (ex_alloc (cs := [(I 0), (.slice none 0 0)]) H hn0 ti81 rfl) (wanted_none _ rfl _) ?_
  rintro _ σ7 ⟨b6, rfl, H, -⟩
  refine st_exS (ex_store_box (k := 0) (cs := [(I 0), (.slice none 0 0)]) (vs := [(I k_3), (.slice none 0 0)]) (cs' := [(I k_3), (.slice none 0 0)]) H (i := 0) rfl ti81 rfl rfl rfl rfl rfl (Nat.le_of_ble_eq_true rfl) (by simp [plain]) rfl) (wanted_none _ rfl _) ?_
  rintro σ8 ⟨H, -⟩
  refine w_end ?_
  refine q_then ?_
  refine c_seq ?_
  refine c_seq ?_
  refine rg ?_
  refine st (v := (Sl alist_0 list_0 clist_0)) (rv_move rfl) ?_
  refine st (v := (I (list_0.length : Int))) (rv_len Try.underlying23 rfl) ?_
  refine st (v := (I 0)) (rv_move rfl) ?_
  refine w_end ?_
  refine q_then ?_
  obtain ⟨o9, hj, h'⟩ := bind_some h
  clear h
  refine c_cut (fun e a w => e = .normal ∧ ∃ (ρ : Nat → Value) (σ : St) (aj1 : Option Addr) (cj2 : Nat), a = fr 33 (updL ρ [(9, (pt b6 0))]) ∧ w = σ.w ∧ Hp S0 σ0 σ [Ch.bx n0 b6 0 [(I o9.1), (Sl aj1 o9.2 cj2)] [] [], Ch.own 0 0 (Sl aj1 o9.2 cj2) o9.2]) ?_ ?_
  ·clear h'
   rename _ = some o9 => h
   refine c_blk ?_
   replace H := H.nilOwn (Int × Int) 0 0
   refine wp_loopM _ h (fun s10 a w => ∃ (ρ : Nat → Value) (σ : St) (aj1 : Option Addr) (cj2 : Nat), a = fr 33 (updL ρ [(1, (I kind_1)), (2, (Sl aat_2 at_2 cat_2)), (9, (pt b6 0)), (20, (Sl alist_0 list_0 clist_0)), (21, (I (list_0.length : Int))), (22, (I s10.2))]) ∧ w = σ.w ∧ Hp S0 σ0 σ [Ch.bx n0 b6 0 [(I s10.1.1), (Sl aj1 s10.1.2 cj2)] [] [], Ch.own 0 0 (Sl aj1 s10.1.2 cj2) s10.1.2, Ch.ro 0 (Sl aat_2 at_2 cat_2) at_2, Ch.ro 0 (Sl alist_0 list_0 clist_0) list_0]) ⟨_, σ8, none, 0, fr_join ⟨rfl, rfl, rfl, rfl, rfl, rfl, trivial⟩, rfl, H.sel' [1, 0, 3, 2] rfl rfl⟩ ?_
   clear h H
   rintro s10 a w o ⟨ρ, σ11, a12, c13, rfl, rfl, H⟩ h hres
   refine c_seq ?_
   refine rg ?_
   refine st (v := (B (decide (s10.2 < (list_0.length : Int))))) (rv_lss (a := s10.2) (b := (list_0.length : Int)) rfl rfl) ?_
   refine w_end ?_
   refine q_then ?_
   refine c_seq ?_
   refine cd_cond (decide (s10.2 < (list_0.length : Int))) rfl (fun hb14 => ?_) (fun hb14 => ?_)
   ·replace h := bif_t hb14 h
    refine c_skip ?_
    refine q_then ?_
    refine c_seq ?_
    refine c_blk ?_
    refine c_seq ?_
    refine rg ?_
    obtain ⟨x15, hx16, h'⟩ := bind_some h
    clear h
    have h := h'; clear h'
    obtain ⟨b18, o19, hi17, -⟩ := (H.ro 3 rfl).ix hx16
    refine st (v := (pt b18 o19)) (rv_ix Try.underlying23 ti37 rfl rfl hi17) ?_
    obtain ⟨_, ⟨_, _, rfl, rfl, ⟨_, _, rfl, ⟨_, rfl, hR24⟩, rfl⟩⟩, hl20, hc21⟩ := ((H.ro 3 rfl).at hx16 hi17).cells
    obtain ⟨a22, c23, rfl⟩ := hR24.isSl
    replace H := H.add (d := Ch.ro 0 (Sl a22 x15.2.1 c23) x15.2.1) hR24 (fun _ h => h)
    clear hR24
    refine st (v := (.agg #[(I x15.1), (Sl a22 x15.2.1 c23), (I x15.2.2)])) (rv_load Try.underlying37 rfl ti37 rfl hl20 hc21) ?_
    refine st_ex (ex_alloc (cs := [(I 0), (.slice none 0 0), (I 0)]) H hn0 ti37 rfl) (wanted_none _ rfl _) ?_
    rintro _ σ26 ⟨b25, rfl, H, -⟩
    refine st_exS (ex_store_box (k := 0) (cs := [(I 0), (.slice none 0 0), (I 0)]) (vs := [(I x15.1), (Sl a22 x15.2.1 c23), (I x15.2.2)]) (cs' := [(I x15.1), (Sl a22 x15.2.1 c23), (I x15.2.2)]) H (i := 0) rfl ti37 rfl rfl rfl rfl rfl (Nat.le_of_ble_eq_true rfl) (by simp [plain]) rfl) (wanted_none _ rfl _) ?_
    rintro σ27 ⟨H, -⟩
    refine w_end ?_
    refine q_then ?_
    refine rg ?_
    have hc28 := H.cells 0 rfl
    refine st (v := (.agg #[(I x15.1), (Sl a22 x15.2.1 c23), (I x15.2.2)])) (rv_load (cs := [(I x15.1), (Sl a22 x15.2.1 c23), (I x15.2.2)]) Try.underlying37 rfl ti37 rfl rfl hc28) ?_
    refine st (v := (I kind_1)) (rv_move rfl) ?_
    refine st (v := (Sl aat_2 at_2 cat_2)) (rv_move rfl) ?_
    obtain ⟨r29, hx30, h'⟩ := bind_some h
    clear h
    have h := h'; clear h'
    have hc31 := c_impl_hitOf (ax_0_1 := a22) (cx_0_1 := c23) (aat_2 := aat_2) (cat_2 := cat_2) hx30
    refine st_call (cx_call hc31 (ent_f hc31.fn rfl) hn0 (show Hp S0 σ0 _ ([Ch.ro 0 (Sl a22 x15.2.1 c23) x15.2.1, Ch.ro 0 (Sl aat_2 at_2 cat_2) at_2] ++ [Ch.bx n0 b25 0 [(I x15.1), (Sl a22 x15.2.1 c23), (I x15.2.2)] [] [], Ch.ro 0 (Sl a22 x15.2.1 c23) x15.2.1, Ch.bx n0 b6 0 [(I s10.1.1), (Sl a12 s10.1.2 c13)] [] [], Ch.own 0 0 (Sl a12 s10.1.2 c13) s10.1.2, Ch.ro 0 (Sl aat_2 at_2 cat_2) at_2, Ch.ro 0 (Sl alist_0 list_0 clist_0) list_0]) from (H.sel' [1, 4, 0, 1, 2, 3, 4, 5] rfl rfl))) (wanted_none _ rfl _) ?_
    rintro _ σ32 ⟨_, ⟨rfl, rfl⟩, H, -⟩
    replace H : Hp S0 σ0 σ32 [Ch.bx n0 b25 0 [(I x15.1), (Sl a22 x15.2.1 c23), (I x15.2.2)] [] [], Ch.ro 0 (Sl a22 x15.2.1 c23) x15.2.1, Ch.bx n0 b6 0 [(I s10.1.1), (Sl a12 s10.1.2 c13)] [] [], Ch.own 0 0 (Sl a12 s10.1.2 c13) s10.1.2, Ch.ro 0 (Sl aat_2 at_2 cat_2) at_2, Ch.ro 0 (Sl alist_0 list_0 clist_0) list_0] := H
    obtain ⟨r33, hx34, h'⟩ := bind_some h
    clear h
    have h := h'; clear h'
    have hc35 := c_impl_nearestHits_offer (lon_0 := n0) (bn_0 := b6) (on_0 := 0) (pren_0 := []) (sufn_0 := []) (an_0_1 := a12) (cn_0_1 := c13) hx34
    refine st_call (cx_call hc35 (ent_f hc35.fn rfl) hn0 (show Hp S0 σ0 _ ([Ch.bx n0 b6 0 [(I s10.1.1), (Sl a12 s10.1.2 c13)] [] [], Ch.own 0 0 (Sl a12 s10.1.2 c13) s10.1.2] ++ [Ch.bx n0 b25 0 [(I x15.1), (Sl a22 x15.2.1 c23), (I x15.2.2)] [] [], Ch.ro 0 (Sl a22 x15.2.1 c23) x15.2.1, Ch.ro 0 (Sl aat_2 at_2 cat_2) at_2, Ch.ro 0 (Sl alist_0 list_0 clist_0) list_0]) from (H.sel' [2, 3, 0, 1, 4, 5] rfl rfl))) (wanted_none _ rfl _) ?_
    rintro _ σ38 ⟨_, ⟨a36, c37, rfl, rfl⟩, H, -⟩
    replace H : Hp S0 σ0 σ38 [Ch.bx n0 b6 0 [(I r33.1), (Sl a36 r33.2 c37)] [] [], Ch.own 0 0 (Sl a36 r33.2 c37) r33.2, Ch.bx n0 b25 0 [(I x15.1), (Sl a22 x15.2.1 c23), (I x15.2.2)] [] [], Ch.ro 0 (Sl a22 x15.2.1 c23) x15.2.1, Ch.ro 0 (Sl aat_2 at_2 cat_2) at_2, Ch.ro 0 (Sl alist_0 list_0 clist_0) list_0] := H
    refine w_end ?_
    refine q_blk ?_
    refine q_then ?_
    refine rg ?_
    refine st (v := (I (w64 (s10.2 + 1)))) (rv_add (a := s10.2) (b := 1) rfl rfl) ?_
    refine st (v := (I (w64 (s10.2 + 1)))) (rv_move rfl) ?_
    refine w_end ?_
    refine q_then ?_
    obtain rfl := Option.some.inj h
    exact ⟨_, rfl, _, σ38, a36, c37, fr_join ⟨rfl, rfl, rfl, rfl, rfl, rfl, trivial⟩, rfl, H.sel' [0, 1, 4, 5] rfl rfl⟩
   ·replace h := bif_f hb14 h
    refine c_exit ?_
    refine q_then_x ?_
    refine q_then_x ?_
    refine q_blk_hit ?_
    obtain rfl := Option.some.inj h
    obtain rfl := hres _ rfl
    exact ⟨rfl, _, σ11, a12, c13, fr_join ⟨rfl, trivial⟩, rfl, H.sel' [0, 1] rfl rfl⟩
  ·clear hj
   have h := h'
   clear h' H
   rintro e a w ⟨rfl, ρ, σ39, a40, c41, rfl, rfl, H⟩
   refine q_then ?_
   refine c_seq ?_
   refine rg ?_
   obtain ⟨σ42, hw43, H, -⟩ := H.pub 1 rfl (Nat.le_refl _)
   rw [← hw43]; clear hw43
   obtain ⟨r44, hx45, h'⟩ := bind_some h
   clear h
   have h := h'; clear h'
   have hc46 := c_impl_nearestHits_inOrder (lon_0 := n0) (bn_0 := b6) (on_0 := 0) (pren_0 := []) (sufn_0 := []) (an_0_1 := a40) (cn_0_1 := c41) hx45
   refine st_call (cx_call hc46 (ent_f hc46.fn rfl) hn0 (show Hp S0 σ0 _ ([Ch.bx n0 b6 0 [(I o9.1), (Sl a40 o9.2 c41)] [] [], Ch.ro 0 (Sl a40 o9.2 c41) o9.2] ++ [Ch.ro 0 (Sl a40 o9.2 c41) o9.2]) from (H.sel' [1, 0, 0] rfl rfl))) (wanted_none _ rfl _) ?_
   rintro _ σ49 ⟨_, ⟨a47, c48, rfl, rfl⟩, H, -⟩
   replace H : Hp S0 σ0 σ49 [Ch.own 0 n0 (Sl a47 r44 c48) r44, Ch.bx n0 b6 0 [(I o9.1), (Sl a40 o9.2 c41)] [] [], Ch.ro 0 (Sl a40 o9.2 c41) o9.2] := H
   refine st (v := (Sl a47 r44 c48)) (rv_assign rfl) ?_
   refine w_end ?_
   refine q_then ?_
   refine c_ret ?_
   obtain rfl := Option.some.inj h
   exact fin_ret (v := (Sl a47 r44 c48)) (results_ok Try.results29 (res_tmp (v := (Sl a47 r44 c48)) rfl res_nil) rfl) ⟨a47, c48, rfl, rfl⟩ (H.sel' [0] rfl rfl)

theorem c_impl_WithinDist_1__p3 {h_0 : Int × Int} {p_1 : Int} {lop_1 bp_1 op_1 : Nat} {prep_1 sufp_1 : List Value} {r : Bool} (h : M.impl_WithinDist_1__p3 h_0 p_1 = some r) :
    Cal2 Try.prog 48 [(.agg #[(I h_0.1), (I h_0.2)]), (pt bp_1 op_1)] [Ch.bx lop_1 bp_1 op_1 [(I p_1)] prep_1 sufp_1] (fun n0 v L => v = (B r) ∧ L = [Ch.bx lop_1 bp_1 op_1 [(I p_1)] prep_1 sufp_1]) := by
 refine cal2 (n := 8) Try.func48 rfl rfl rfl rfl ?_
 intro S0 σ0 n0 hn0 H
 unfold M.impl_WithinDist_1__p3 at h
 refine c_seq ?_
 refine rg ?_
 refine st_ex (ex_box (cs := [(I h_0.1), (I h_0.2)]) H hn0 rfl rfl) (wanted_none _ rfl _) ?_
 rintro _ σ2 ⟨b1, rfl, H, -⟩
 refine st (v := (B false)) (rv_assign rfl) ?_
 refine w_end ?_
 refine q_then ?_
 refine c_seq ?_
 refine rg ?_
 refine st (v := (pt b1 1)) (rv_fieldAddr (off := 1) (ft := 3) Try.underlying64 rfl ti3 rfl rfl) ?_
 have hc3 := H.cell (u := (I h_0.2)) (o' := 1) 0 1 rfl rfl rfl
 refine st (v := (I h_0.2)) (rv_load1 Try.underlying3 rfl rfl hc3) ?_
 have hc4 := H.cell (u := (I p_1)) (o' := op_1) 1 0 rfl rfl rfl
 refine st (v := (I p_1)) (rv_load1 Try.underlying3 rfl rfl hc4) ?_
 refine st (v := (B (decide (p_1 < h_0.2)))) (rv_gtr (a := h_0.2) (b := p_1) rfl rfl) ?_
 refine st (v := (B (decide (p_1 < h_0.2)))) (rv_assign rfl) ?_
 refine w_end ?_
 refine q_then ?_
 refine c_ret ?_
 obtain rfl := Option.some.inj h
 exact fin_ret (v := (B (decide (p_1 < h_0.2)))) (results_ok Try.results48 (res_tmp (v := (B (decide (p_1 < h_0.2)))) rfl res_nil) rfl) ⟨rfl, rfl⟩ (H.sel' [1] rfl rfl)

theorem c_slices_IndexFunc_impl_Hit_impl_Hit__impl_WithinDist_1 {s_0 : List (Int × Int)} {f_1_0 : Int} {as_0 : Option Addr} {cs_0 : Nat} {lof_1_0 bf_1_0 of_1_0 : Nat} {pref_1_0 suff_1_0 : List Value} {r : Int} (h : M.slices_IndexFunc_impl_Hit_impl_Hit__impl_WithinDist_1 s_0 f_1_0 = some r) :
    Cal2 Try.prog 83 [(Sl as_0 s_0 cs_0), (.func (.func 48) #[] #[(pt bf_1_0 of_1_0)])] [Ch.ro 0 (Sl as_0 s_0 cs_0) s_0, Ch.bx lof_1_0 bf_1_0 of_1_0 [(I f_1_0)] pref_1_0 suff_1_0] (fun n0 v L => v = (I r) ∧ L = [Ch.bx lof_1_0 bf_1_0 of_1_0 [(I f_1_0)] pref_1_0 suff_1_0]) := by
 refine cal2 (n := 19) Try.func83 rfl rfl rfl rfl ?_
 intro S0 σ0 n0 hn0 H
 unfold M.slices_IndexFunc_impl_Hit_impl_Hit__impl_WithinDist_1 at h
 refine c_seq ?_
 refine rg ?_
 refine st (v := (I 0)) (rv_assign rfl) ?_
 refine w_end ?_
 refine q_then ?_
 refine c_seq ?_
 refine c_seq ?_
 refine rg ?_
 refine st (v := (Sl as_0 s_0 cs_0)) (rv_move rfl) ?_
 refine st (v := (I (s_0.length : Int))) (rv_len Try.underlying27 rfl) ?_
 refine st (v := (I 0)) (rv_move rfl) ?_
 refine w_end ?_
 refine q_then ?_
 obtain ⟨o1, hj, h'⟩ := bind_some h
 clear h
 refine c_cut (fun e a w => (∃ t, o1 = (.inl t) ∧ e = .normal ∧ ∃ (ρ : Nat → Value) (σ : St), a = fr 19 (updL ρ [(1, (.func (.func 48) #[] #[(pt bf_1_0 of_1_0)]))]) ∧ w = σ.w ∧ Hp S0 σ0 σ [Ch.bx lof_1_0 bf_1_0 of_1_0 [(I f_1_0)] pref_1_0 suff_1_0]) ∨ (∃ t, o1 = (.inr t) ∧ e = .ret ∧ ∃ (ρ : Nat → Value) (σ : St), a = fr 19 (updL ρ [(1, (.func (.func 48) #[] #[(pt bf_1_0 of_1_0)])), (4, (I t))]) ∧ w = σ.w ∧ Hp S0 σ0 σ [Ch.bx lof_1_0 bf_1_0 of_1_0 [(I f_1_0)] pref_1_0 suff_1_0])) ?_ ?_
 ·clear h'
  rename _ = some o1 => h
  refine c_blk ?_
  refine wp_loopM _ h (fun s2 a w => ∃ (ρ : Nat → Value) (σ : St), a = fr 19 (updL ρ [(0, (Sl as_0 s_0 cs_0)), (1, (.func (.func 48) #[] #[(pt bf_1_0 of_1_0)])), (7, (I (s_0.length : Int))), (8, (I s2))]) ∧ w = σ.w ∧ Hp S0 σ0 σ [Ch.ro 0 (Sl as_0 s_0 cs_0) s_0, Ch.bx lof_1_0 bf_1_0 of_1_0 [(I f_1_0)] pref_1_0 suff_1_0]) ⟨_, σ0, fr_join ⟨rfl, rfl, rfl, rfl, trivial⟩, rfl, H.sel' [0, 1] rfl rfl⟩ ?_
  clear h H
  rintro s2 a w o ⟨ρ, σ3, rfl, rfl, H⟩ h hres
  refine c_seq ?_
  refine rg ?_
  refine st (v := (B (decide (s2 < (s_0.length : Int))))) (rv_lss (a := s2) (b := (s_0.length : Int)) rfl rfl) ?_
  refine w_end ?_
  refine q_then ?_
  refine c_seq ?_
  refine cd_cond (decide (s2 < (s_0.length : Int))) rfl (fun hb4 => ?_) (fun hb4 => ?_)
  ·replace h := bif_t hb4 h
   refine c_skip ?_
   refine q_then ?_
   refine c_seq ?_
   refine c_blk ?_
   refine c_seq ?_
   refine rg ?_
   refine st (v := (I s2)) (rv_move rfl) ?_
   refine st (v := (I s2)) (rv_assign rfl) ?_
   refine w_end ?_
   refine q_then ?_
   refine c_seq ?_
   refine rg ?_
   refine st (v := (.func (.func 48) #[] #[(pt bf_1_0 of_1_0)])) (rv_move rfl) ?_
   refine st (v := (Sl as_0 s_0 cs_0)) (rv_move rfl) ?_
   refine st (v := (I s2)) (rv_move rfl) ?_
   obtain ⟨x5, hx6, h'⟩ := bind_some h
   clear h
   have h := h'; clear h'
   obtain ⟨b8, o9, hi7, -⟩ := (H.ro 0 rfl).ix hx6
   refine st (v := (pt b8 o9)) (rv_ix Try.underlying27 ti64 rfl rfl hi7) ?_
   obtain ⟨_, ⟨_, _, rfl, rfl, rfl⟩, hl10, hc11⟩ := ((H.ro 0 rfl).at hx6 hi7).cells
   refine st (v := (.agg #[(I x5.1), (I x5.2)])) (rv_load Try.underlying64 rfl ti64 rfl hl10 hc11) ?_
   obtain ⟨r12, hx13, h'⟩ := bind_some h
   clear h
   have h := h'; clear h'
   have hc14 := c_impl_WithinDist_1__p3 (lop_1 := lof_1_0) (bp_1 := bf_1_0) (op_1 := of_1_0) (prep_1 := pref_1_0) (sufp_1 := suff_1_0) hx13
   refine st_call (cx_call hc14 (ent_v (cap := [(pt bf_1_0 of_1_0)]) hc14.fn rfl rfl) hn0 (show Hp S0 σ0 _ ([Ch.bx lof_1_0 bf_1_0 of_1_0 [(I f_1_0)] pref_1_0 suff_1_0] ++ [Ch.ro 0 (Sl as_0 s_0 cs_0) s_0]) from (H.sel' [1, 0] rfl rfl))) (wanted_none _ rfl _) ?_
   rintro _ σ15 ⟨_, ⟨rfl, rfl⟩, H, -⟩
   replace H : Hp S0 σ0 σ15 [Ch.bx lof_1_0 bf_1_0 of_1_0 [(I f_1_0)] pref_1_0 suff_1_0, Ch.ro 0 (Sl as_0 s_0 cs_0) s_0] := H
   refine w_end ?_
   refine q_then ?_
   refine cd_cond r12 rfl (fun hb16 => ?_) (fun hb16 => ?_)
   ·replace h := bif_t hb16 h
    refine c_seq ?_
    refine rg ?_
    refine st (v := (I s2)) (rv_move rfl) ?_
    refine st (v := (I s2)) (rv_assign rfl) ?_
    refine w_end ?_
    refine q_then ?_
    refine c_ret ?_
    refine q_blk_r ?_
    refine q_then_r ?_
    refine q_then_r ?_
    refine q_blk_r ?_
    obtain rfl := Option.some.inj h
    obtain rfl := hres _ rfl
    exact .inr (⟨_, rfl, rfl, _, σ15, fr_join ⟨rfl, rfl, trivial⟩, rfl, H.sel' [0] rfl rfl⟩)
   ·replace h := bif_f hb16 h
    refine c_skip ?_
    refine q_blk ?_
    refine q_then ?_
    refine rg ?_
    refine st (v := (I (w64 (s2 + 1)))) (rv_add (a := s2) (b := 1) rfl rfl) ?_
    refine st (v := (I (w64 (s2 + 1)))) (rv_move rfl) ?_
    refine w_end ?_
    refine q_then ?_
    obtain rfl := Option.some.inj h
    exact ⟨_, rfl, _, σ15, fr_join ⟨rfl, rfl, rfl, rfl, trivial⟩, rfl, H.sel' [1, 0] rfl rfl⟩
  ·replace h := bif_f hb4 h
   refine c_exit ?_
   refine q_then_x ?_
   refine q_then_x ?_
   refine q_blk_hit ?_
   obtain rfl := Option.some.inj h
   obtain rfl := hres _ rfl
   exact .inl ⟨_, rfl, rfl, _, σ3, fr_join ⟨rfl, trivial⟩, rfl, H.sel' [1] rfl rfl⟩
 ·clear hj
  have h := h'
  clear h' H
  rintro e a w (⟨t17, rfl, rfl, ρ, σ18, rfl, rfl, H⟩ | ⟨t19, rfl, rfl, ρ, σ20, rfl, rfl, H⟩)
  ·replace h := selim_l h
   refine q_then ?_
   refine c_seq ?_
   refine rg ?_
   refine st (v := (I (-1))) (rv_assign rfl) ?_
   refine w_end ?_
   refine q_then ?_
   refine c_ret ?_
   obtain rfl := Option.some.inj h
   exact fin_ret (v := (I (-1))) (results_ok Try.results83 (res_tmp (v := (I (-1))) rfl res_nil) rfl) ⟨rfl, rfl⟩ (H.sel' [0] rfl rfl)
  ·replace h := selim_r h
   refine q_then_r ?_
   obtain rfl := Option.some.inj h
   exact fin_ret (v := (I t19)) (results_ok Try.results83 (res_tmp (v := (I t19)) rfl res_nil) rfl) ⟨rfl, rfl⟩ (H.sel' [0] rfl rfl)

end Go.Vs
