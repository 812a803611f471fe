/- The functions compute what their models say. -/
import Derived.Test.YtifddljigkhfgaaKNearestOwnC4
set_option linter.unusedVariables false
set_option linter.unusedSimpArgs false
set_option maxRecDepth 20000
namespace Go.Vs
open Go Go.Proofs
attribute [local irreducible] Code.wp Code.wpIn wpList wpListIn wpQuiet Calls CallsIn

theorem c_slices_partitionEqualCmpFunc_impl_Hit__impl_compareHits {data_0 : List (Int × Int)} {a_1 : Int} {b_2 : Int} {pivot_3 : Int} {adata_0 : Option Addr} {cdata_0 : Nat} {r : Int × (List (Int × Int))} (h : M.slices_partitionEqualCmpFunc_impl_Hit__impl_compareHits data_0 a_1 b_2 pivot_3 = some r) :
    Cal2 Try.prog 140 [(Sl adata_0 data_0 cdata_0), (I a_1), (I b_2), (I pivot_3), (.func (.func 89) #[] #[])] [Ch.own 0 0 (Sl adata_0 data_0 cdata_0) data_0] (fun n0 v L => v = (I r.1) ∧ L = [Ch.own 0 0 (Sl adata_0 r.2 cdata_0) r.2] ∧ r.2.length = data_0.length) := by
 refine cal2 (n := 90) Try.func140 rfl rfl rfl rfl ?_
 intro S0 σ0 n0 hn0 H
 unfold M.slices_partitionEqualCmpFunc_impl_Hit__impl_compareHits at h
 refine c_seq ?_
 refine rg ?_
 refine st (v := (I 0)) (rv_assign rfl) ?_
 refine w_end ?_
 refine q_then ?_
 refine c_seq ?_
 obtain ⟨x1, hx2, h'⟩ := bind_some h
 clear h
 have h := h'; clear h'
 obtain ⟨b4, o5, hi3, -⟩ := (H.own 0 rfl).ix hx2
 obtain ⟨_, ⟨_, _, rfl, rfl, rfl⟩, hl6, hc7⟩ := ((H.own 0 rfl).at hx2 hi3).cells
 obtain ⟨x8, hx9, h'⟩ := bind_some h
 clear h
 have h := h'; clear h'
 obtain ⟨b11, o12, hi10, -⟩ := (H.own 0 rfl).ix hx9
 obtain ⟨_, ⟨_, _, rfl, rfl, rfl⟩, hl13, hc14⟩ := ((H.own 0 rfl).at hx9 hi10).cells
 obtain ⟨x15, hx16, h'⟩ := bind_some h
 clear h
 have h := h'; clear h'
 obtain ⟨b18, o19, hi17, -⟩ := (H.own 0 rfl).ix hx16
 have Hs := H
 refine rg2 (σ := σ0) (Nm := Unit) 14 [13] [[false], [true]] [[(0, 0)], [(0, 0)], [(0, 0), (1, 1)], [(0, 0), (1, 1)], [(0, 0)], [(0, 0)], [(0, 0)], [(0, 0)], [(0, 0)], [(0, 0)], [(0, 0)], [(0, 0)], [(0, 0)], [(0, 1)]] 1 [fun (_nm : Unit) => fun σm => Hp S0 σ0 σm [Ch.own 0 0 (Sl adata_0 data_0 cdata_0) data_0] ∧ Md (cov []) σ0 σm, fun (_nm : Unit) => fun σm => Hp S0 σ0 σm [Ch.own 0 0 (Sl adata_0 data_0 cdata_0) (data_0.set a_1.toNat (x1.1, x1.2))] ∧ Md (fun i => (cov []) i ∨ (fun b => blk (Sl adata_0 data_0 cdata_0) = some b) i) σ0 σm] [fun (_nm : Unit) => (Sl adata_0 data_0 cdata_0), fun (_nm : Unit) => (I a_1), fun (_nm : Unit) => (Sl adata_0 data_0 cdata_0), fun (_nm : Unit) => (I pivot_3), fun (_nm : Unit) => (Sl adata_0 data_0 cdata_0), fun (_nm : Unit) => (I pivot_3), fun (_nm : Unit) => (pt b4 o5), fun (_nm : Unit) => (.agg #[(I x1.1), (I x1.2)]), fun (_nm : Unit) => (Sl adata_0 data_0 cdata_0), fun (_nm : Unit) => (I a_1), fun (_nm : Unit) => (pt b11 o12), fun (_nm : Unit) => (.agg #[(I x8.1), (I x8.2)]), fun (_nm : Unit) => (pt b18 o19), fun (_nm : Unit) => undef] () (by kernel_rfl) (by kernel_rfl) ?_ ?_ ?_
 ·intro σm m0
  exact ⟨H.grow (m0.mono fun _ h => h.elim), m0⟩
 ·refine all_cons (obs_v rfl (by
    intro k; intro _nm ρ σm hJ hoff hdep
    have e0 : look 90 ρ 0 = (Sl adata_0 data_0 cdata_0) := look_off (hoff 0 rfl) rfl
    exact dp_v (v := (Sl adata_0 data_0 cdata_0)) (wanted_none _ rfl _) (rv_move e0) rfl hJ)) ?_
  refine all_cons (obs_v rfl (by
    intro k; intro _nm ρ σm hJ hoff hdep
    have e1 : look 90 ρ 1 = (I a_1) := look_off (hoff 1 rfl) rfl
    exact dp_v (v := (I a_1)) (wanted_none _ rfl _) (rv_move e1) rfl hJ)) ?_
  refine all_cons (obs_v rfl (by
    intro k; intro _nm ρ σm hJ hoff hdep
    have e0 : look 90 ρ 0 = (Sl adata_0 data_0 cdata_0) := look_off (hoff 0 rfl) rfl
    exact dp_v (v := (Sl adata_0 data_0 cdata_0)) (wanted_none _ rfl _) (rv_move e0) rfl hJ)) ?_
  refine all_cons (obs_v rfl (by
    intro k; intro _nm ρ σm hJ hoff hdep
    have e3 : look 90 ρ 3 = (I pivot_3) := look_off (hoff 3 rfl) rfl
    exact dp_v (v := (I pivot_3)) (wanted_none _ rfl _) (rv_move e3) rfl hJ)) ?_
  refine all_cons (obs_v rfl (by
    intro k; intro _nm ρ σm hJ hoff hdep
    have e0 : look 90 ρ 0 = (Sl adata_0 data_0 cdata_0) := look_off (hoff 0 rfl) rfl
    exact dp_v (v := (Sl adata_0 data_0 cdata_0)) (wanted_none _ rfl _) (rv_move e0) rfl hJ)) ?_
  refine all_cons (obs_v rfl (by
    intro k; intro _nm ρ σm hJ hoff hdep
    have e3 : look 90 ρ 3 = (I pivot_3) := look_off (hoff 3 rfl) rfl
    exact dp_v (v := (I pivot_3)) (wanted_none _ rfl _) (rv_move e3) rfl hJ)) ?_
  refine all_cons (obs_v rfl (by
    intro k; intro _nm ρ σm hJ hoff hdep
    have e17 : look 90 ρ 17 = (Sl adata_0 data_0 cdata_0) := hdep 4 rfl rfl 17 rfl
    have e18 : look 90 ρ 18 = (I pivot_3) := hdep 5 rfl rfl 18 rfl
    exact dp_v (v := (pt b4 o5)) (wanted_none _ rfl _) (rv_ix Try.underlying27 ti33 e17 e18 hi3) rfl hJ)) ?_
  refine all_cons (by
    refine ⟨?_, ?_⟩
    ·intro _nm ρ σm hJ hoff hdep
     have e19 : look 90 ρ 19 = (pt b4 o5) := hdep 6 rfl rfl 19 rfl
     obtain ⟨H, m⟩ := id hJ
     obtain ⟨_, ⟨_, _, rfl, rfl, rfl⟩, hl6, hc7⟩ := ((H.own 0 rfl).at hx2 hi3).cells
     exact dp_v (v := (.agg #[(I x1.1), (I x1.2)])) (wanted_none _ rfl _) (rv_load Try.underlying33 rfl ti33 e19 hl6 hc7) rfl hJ
    trivial) ?_
  refine all_cons (obs_v rfl (by
    intro k; intro _nm ρ σm hJ hoff hdep
    have e0 : look 90 ρ 0 = (Sl adata_0 data_0 cdata_0) := look_off (hoff 0 rfl) rfl
    exact dp_v (v := (Sl adata_0 data_0 cdata_0)) (wanted_none _ rfl _) (rv_move e0) rfl hJ)) ?_
  refine all_cons (obs_v rfl (by
    intro k; intro _nm ρ σm hJ hoff hdep
    have e1 : look 90 ρ 1 = (I a_1) := look_off (hoff 1 rfl) rfl
    exact dp_v (v := (I a_1)) (wanted_none _ rfl _) (rv_move e1) rfl hJ)) ?_
  refine all_cons (obs_v rfl (by
    intro k; intro _nm ρ σm hJ hoff hdep
    have e21 : look 90 ρ 21 = (Sl adata_0 data_0 cdata_0) := hdep 8 rfl rfl 21 rfl
    have e22 : look 90 ρ 22 = (I a_1) := hdep 9 rfl rfl 22 rfl
    exact dp_v (v := (pt b11 o12)) (wanted_none _ rfl _) (rv_ix Try.underlying27 ti33 e21 e22 hi10) rfl hJ)) ?_
  refine all_cons (by
    refine ⟨?_, ?_⟩
    ·intro _nm ρ σm hJ hoff hdep
     have e23 : look 90 ρ 23 = (pt b11 o12) := hdep 10 rfl rfl 23 rfl
     obtain ⟨H, m⟩ := id hJ
     obtain ⟨_, ⟨_, _, rfl, rfl, rfl⟩, hl13, hc14⟩ := ((H.own 0 rfl).at hx9 hi10).cells
     exact dp_v (v := (.agg #[(I x8.1), (I x8.2)])) (wanted_none _ rfl _) (rv_load Try.underlying33 rfl ti33 e23 hl13 hc14) rfl hJ
    trivial) ?_
  refine all_cons (obs_v rfl (by
    intro k; intro _nm ρ σm hJ hoff hdep
    have e13 : look 90 ρ 13 = (Sl adata_0 data_0 cdata_0) := hdep 0 rfl rfl 13 rfl
    have e14 : look 90 ρ 14 = (I a_1) := hdep 1 rfl rfl 14 rfl
    exact dp_v (v := (pt b18 o19)) (wanted_none _ rfl _) (rv_ix Try.underlying27 ti33 e13 e14 hi17) rfl hJ)) ?_
  refine all_cons (by
    refine ⟨?_, ?_⟩
    ·intro _nm ρ σm hJ hoff hdep
     have e25 : look 90 ρ 25 = (pt b18 o19) := hdep 12 rfl rfl 25 rfl
     have e20 : look 90 ρ 20 = (.agg #[(I x1.1), (I x1.2)]) := hdep 7 rfl rfl 20 rfl
     obtain ⟨H, m⟩ := id hJ
     refine dp_exS (wanted_none _ rfl _) rfl (ex_store_own (e' := (x1.1, x1.2)) (vs := [(I x1.1), (I x1.2)]) (k := 0) H (i := 0) rfl ti33 hx16 hi17 e25 rfl e20 rfl rfl (Nat.le_of_ble_eq_true rfl) (by simp [plain]) (by rintro _ ⟨_, _, rfl, rfl, rfl⟩; exact ⟨[(I x1.1)], [(I x1.2)], rfl, rfl, rfl⟩)) ?_
     rintro σq ⟨H2, m2⟩
     exact ⟨_, (), rfl, ⟨H2.sel' [0] rfl rfl, m.comp m2⟩, stab [0, 1, 2, 3, 4, 5, 6, 7, 8, 9, 10, 11, 12] (by kernel_rfl) ⟨rfl, rfl, rfl, rfl, rfl, rfl, rfl, rfl, rfl, rfl, rfl, rfl, rfl, trivial⟩⟩
    trivial) ?_
  exact all_nil
 ·intro _nm ρ σ20 hJ hoff hrel
  have e0 : look 90 ρ 0 = (Sl adata_0 data_0 cdata_0) := look_off (hoff 0 rfl) rfl
  have e1 : look 90 ρ 1 = (I a_1) := look_off (hoff 1 rfl) rfl
  have e2 : look 90 ρ 2 = (I b_2) := look_off (hoff 2 rfl) rfl
  have e4 : look 90 ρ 4 = (.func (.func 89) #[] #[]) := look_off (hoff 4 rfl) rfl
  have e15 : look 90 ρ 15 = (Sl adata_0 data_0 cdata_0) := hrel 2 rfl 15 rfl
  have e16 : look 90 ρ 16 = (I pivot_3) := hrel 3 rfl 16 rfl
  have e24 : look 90 ρ 24 = (.agg #[(I x8.1), (I x8.2)]) := hrel 11 rfl 24 rfl
  obtain ⟨H, -⟩ := (show Hp S0 σ0 σ20 [Ch.own 0 0 (Sl adata_0 data_0 cdata_0) (data_0.set a_1.toNat (x1.1, x1.2))] ∧ Md (fun i => (cov []) i ∨ (fun b => blk (Sl adata_0 data_0 cdata_0) = some b) i) σ0 σ20 from hJ)
  clear hJ Hs
  rw [fr_lookL (L := [(0, (Sl adata_0 data_0 cdata_0)), (1, (I a_1)), (2, (I b_2)), (4, (.func (.func 89) #[] #[])), (15, (Sl adata_0 data_0 cdata_0)), (16, (I pivot_3)), (24, (.agg #[(I x8.1), (I x8.2)]))]) ⟨e0, e1, e2, e4, e15, e16, e24, trivial⟩]
  clear hoff hrel e0 e1 e2 e4 e15 e16 e24
  have hsl : (Sl adata_0 data_0 cdata_0) = (Sl adata_0 (data_0.set a_1.toNat (x1.1, x1.2)) cdata_0) := sl_len (by simp)
  rw [hsl]; rw [hsl] at H; clear hsl
  obtain ⟨x21, hx22, h'⟩ := bind_some h
  clear h
  have h := h'; clear h'
  obtain ⟨b24, o25, hi23, -⟩ := (H.own 0 rfl).ix hx22
  refine st (v := (pt b24 o25)) (rv_ix Try.underlying27 ti33 rfl rfl hi23) ?_
  refine st_exS (ex_store_own (e' := (x8.1, x8.2)) (vs := [(I x8.1), (I x8.2)]) (k := 0) H (i := 0) rfl ti33 hx22 hi23 rfl rfl rfl rfl rfl (Nat.le_of_ble_eq_true rfl) (by simp [plain]) (by rintro _ ⟨_, _, rfl, rfl, rfl⟩; exact ⟨[(I x8.1)], [(I x8.2)], rfl, rfl, rfl⟩)) (wanted_none _ rfl _) ?_
  rintro σ26 ⟨H, -⟩
  have hsl : (Sl adata_0 (data_0.set a_1.toNat (x1.1, x1.2)) cdata_0) = (Sl adata_0 ((data_0.set a_1.toNat (x1.1, x1.2)).set pivot_3.toNat (x8.1, x8.2)) cdata_0) := sl_len List.length_set.symm
  rw [hsl]; rw [hsl] at H; clear hsl
  refine w_end ?_
  refine q_then ?_
  refine c_seq ?_
  refine rg ?_
  refine st (v := (I a_1)) (rv_move rfl) ?_
  refine st (v := (I (w64 (a_1 + 1)))) (rv_add (a := a_1) (b := 1) rfl rfl) ?_
  refine st (v := (I b_2)) (rv_move rfl) ?_
  refine st (v := (I (w64 (b_2 - 1)))) (rv_sub (a := b_2) (b := 1) rfl rfl) ?_
  refine st (v := (I (w64 (a_1 + 1)))) (rv_assign rfl) ?_
  refine st (v := (I (w64 (b_2 - 1)))) (rv_assign rfl) ?_
  refine w_end ?_
  refine q_then ?_
  refine c_seq ?_
  obtain ⟨o27, hj, h'⟩ := bind_some h
  clear h
  refine c_cut (fun e a w => e = .normal ∧ ∃ (ρ : Nat → Value) (σ : St), a = fr 90 (updL ρ [(0, (Sl adata_0 o27.1 cdata_0)), (11, (I o27.2))]) ∧ w = σ.w ∧ Hp S0 σ0 σ [Ch.own 0 0 (Sl adata_0 o27.1 cdata_0) o27.1] ∧ o27.1.length = ((data_0.set a_1.toNat (x1.1, x1.2)).set pivot_3.toNat (x8.1, x8.2)).length) ?_ ?_
  ·clear h'
   rename _ = some o27 => h
   refine c_blk ?_
   refine wp_loopM _ h (fun s28 a w => ∃ (ρ : Nat → Value) (σ : St), a = fr 90 (updL ρ [(0, (Sl adata_0 s28.1 cdata_0)), (1, (I a_1)), (4, (.func (.func 89) #[] #[])), (11, (I s28.2.1)), (12, (I s28.2.2))]) ∧ w = σ.w ∧ Hp S0 σ0 σ [Ch.own 0 0 (Sl adata_0 s28.1 cdata_0) s28.1] ∧ s28.1.length = ((data_0.set a_1.toNat (x1.1, x1.2)).set pivot_3.toNat (x8.1, x8.2)).length) ⟨_, σ26, fr_join ⟨rfl, rfl, rfl, rfl, rfl, trivial⟩, rfl, H.sel' [0] rfl rfl, rfl⟩ ?_
   clear h H
   rintro s28 a w o ⟨ρ, σ29, rfl, rfl, H, hn30⟩ h hres
   refine c_blk ?_
   refine c_seq ?_
   obtain ⟨o31, hj, h'⟩ := bind_some h
   clear h
   refine c_cut (fun e a w => e = .normal ∧ ∃ (ρ : Nat → Value) (σ : St), a = fr 90 (updL ρ [(0, (Sl adata_0 s28.1 cdata_0)), (1, (I a_1)), (4, (.func (.func 89) #[] #[])), (11, (I o31)), (12, (I s28.2.2))]) ∧ w = σ.w ∧ Hp S0 σ0 σ [Ch.own 0 0 (Sl adata_0 s28.1 cdata_0) s28.1]) ?_ ?_
   ·clear h'
    rename _ = some o31 => h
    refine c_blk ?_
    refine wp_loopM _ h (fun s32 a w => ∃ (ρ : Nat → Value) (σ : St), a = fr 90 (updL ρ [(0, (Sl adata_0 s28.1 cdata_0)), (1, (I a_1)), (4, (.func (.func 89) #[] #[])), (11, (I s32)), (12, (I s28.2.2))]) ∧ w = σ.w ∧ Hp S0 σ0 σ [Ch.own 0 0 (Sl adata_0 s28.1 cdata_0) s28.1]) ⟨_, σ29, fr_join ⟨rfl, rfl, rfl, rfl, rfl, trivial⟩, rfl, H.sel' [0] rfl rfl⟩ ?_
    clear h H
    rintro s32 a w o ⟨ρ, σ33, rfl, rfl, H⟩ h hres
    refine c_seq ?_
    refine c_seq ?_
    obtain ⟨o34, hj, h'⟩ := bind_some h
    clear h
    refine c_cut (fun e a w => e = .normal ∧ ∃ (ρ : Nat → Value) (σ : St), a = fr 90 (updL ρ [(0, (Sl adata_0 s28.1 cdata_0)), (1, (I a_1)), (4, (.func (.func 89) #[] #[])), (11, (I s32)), (12, (I s28.2.2)), (47, (B o34))]) ∧ w = σ.w ∧ Hp S0 σ0 σ [Ch.own 0 0 (Sl adata_0 s28.1 cdata_0) s28.1]) ?_ ?_
    ·clear h'
     rename _ = some o34 => h
     refine rgP (σ := σ33) 13 (by kernel_rfl) (by kernel_rfl) (by kernel_rfl) ?_
     refine sq (v := (I s32)) (rv_move rfl) ?_
     refine sq (v := (I s28.2.2)) (rv_move rfl) ?_
     refine sq (v := (B (decide (s32 ≤ s28.2.2)))) (rv_leq (a := s32) (b := s28.2.2) rfl rfl) ?_
     refine sq (v := (B (decide (s32 ≤ s28.2.2)))) (rv_move rfl) ?_
     rcases Bool.eq_false_or_eq_true (decide (s32 ≤ s28.2.2)) with hb35 | hb35
     ·replace h := bif_t hb35 h
      refine sq_g (v := (.func (.func 89) #[] #[])) (congrArg some hb35) (rv_move rfl) ?_
      refine sq_g (v := (Sl adata_0 s28.1 cdata_0)) (congrArg some hb35) (rv_move rfl) ?_
      refine sq_g (v := (I a_1)) (congrArg some hb35) (rv_move rfl) ?_
      obtain ⟨x36, hx37, h'⟩ := bind_some h
      clear h
      have h := h'; clear h'
      obtain ⟨b39, o40, hi38, -⟩ := (H.own 0 rfl).ix hx37
      refine sq_g (v := (pt b39 o40)) (congrArg some hb35) (rv_ix Try.underlying27 ti33 rfl rfl hi38) ?_
      obtain ⟨_, ⟨_, _, rfl, rfl, rfl⟩, hl41, hc42⟩ := ((H.own 0 rfl).at hx37 hi38).cells
      refine sq_g (v := (.agg #[(I x36.1), (I x36.2)])) (congrArg some hb35) (rv_load Try.underlying33 rfl ti33 rfl hl41 hc42) ?_
      refine sq_g (v := (Sl adata_0 s28.1 cdata_0)) (congrArg some hb35) (rv_move rfl) ?_
      refine sq_g (v := (I s32)) (congrArg some hb35) (rv_move rfl) ?_
      obtain ⟨x43, hx44, h'⟩ := bind_some h
      clear h
      have h := h'; clear h'
      obtain ⟨b46, o47, hi45, -⟩ := (H.own 0 rfl).ix hx44
      refine sq_g (v := (pt b46 o47)) (congrArg some hb35) (rv_ix Try.underlying27 ti33 rfl rfl hi45) ?_
      obtain ⟨_, ⟨_, _, rfl, rfl, rfl⟩, hl48, hc49⟩ := ((H.own 0 rfl).at hx44 hi45).cells
      refine sq_g (v := (.agg #[(I x43.1), (I x43.2)])) (congrArg some hb35) (rv_load Try.underlying33 rfl ti33 rfl hl48 hc49) ?_
      refine sq_end ?_
      intro σ50 hm51
      replace H := H.grow (hm51.mono fun _ h => h); clear hm51
      obtain ⟨r52, hx53, h'⟩ := bind_some h
      clear h
      have h := h'; clear h'
      have hc54 := c_impl_compareHits hx53
      refine st_call (cx_call hc54 (ent_v (cap := []) hc54.fn rfl rfl) hn0 (show Hp S0 σ0 _ ([] ++ [Ch.own 0 0 (Sl adata_0 s28.1 cdata_0) s28.1]) from (H.sel' [0] rfl rfl))) (wanted_yes rfl (by exact (congrArg some hb35))) ?_
      rintro _ σ55 ⟨_, ⟨rfl, rfl⟩, H, -⟩
      replace H : Hp S0 σ0 σ55 [Ch.own 0 0 (Sl adata_0 s28.1 cdata_0) s28.1] := H
      refine st_g (v := (B (decide (r52 < 0)))) (congrArg some hb35) (rv_lss (a := r52) (b := 0) rfl rfl) ?_
      refine st_g (v := (B (!(decide (r52 < 0))))) (congrArg some hb35) (rv_not rfl) ?_
      refine st (v := (B (!(decide (r52 < 0))))) (rv_pick_t (congrArg B hb35) rfl) ?_
      refine w_end ?_
      obtain rfl := Option.some.inj h
      exact ⟨rfl, _, σ55, fr_join ⟨rfl, rfl, rfl, rfl, rfl, rfl, trivial⟩, rfl, H.sel' [0] rfl rfl⟩
     ·replace h := bif_f hb35 h
      refine sq_skip (congrArg some hb35) ?_
      refine sq_skip (congrArg some hb35) ?_
      refine sq_skip (congrArg some hb35) ?_
      refine sq_skip (congrArg some hb35) ?_
      refine sq_skip (congrArg some hb35) ?_
      refine sq_skip (congrArg some hb35) ?_
      refine sq_skip (congrArg some hb35) ?_
      refine sq_skip (congrArg some hb35) ?_
      refine sq_skip (congrArg some hb35) ?_
      refine sq_end ?_
      intro σ56 hm57
      replace H := H.grow (hm57.mono fun _ h => h); clear hm57
      refine st_skip (congrArg some hb35) ?_
      refine st_skip (congrArg some hb35) ?_
      refine st_skip (congrArg some hb35) ?_
      refine st (v := (B false)) (rv_pick_f (congrArg B hb35) rfl) ?_
      refine w_end ?_
      obtain rfl := Option.some.inj h
      exact ⟨rfl, _, σ56, fr_join ⟨rfl, rfl, rfl, rfl, rfl, rfl, trivial⟩, rfl, H.sel' [0] rfl rfl⟩
    ·clear hj
     have h := h'
     clear h' H
     rintro e a w ⟨rfl, ρ, σ58, rfl, rfl, H⟩
     refine q_then ?_
     refine cd_cond o34 rfl (fun hb59 => ?_) (fun hb59 => ?_)
     ·replace h := bif_t hb59 h
      refine c_skip ?_
      refine q_then ?_
      refine c_blk ?_
      refine rg ?_
      refine st (v := (I s32)) (rv_move rfl) ?_
      refine st (v := (I (w64 (s32 + 1)))) (rv_add (a := s32) (b := 1) rfl rfl) ?_
      refine st (v := (I (w64 (s32 + 1)))) (rv_assign rfl) ?_
      refine w_end ?_
      refine q_blk ?_
      refine q_then ?_
      obtain rfl := Option.some.inj h
      exact ⟨_, rfl, _, σ58, fr_join ⟨rfl, rfl, rfl, rfl, rfl, trivial⟩, rfl, H.sel' [0] rfl rfl⟩
     ·replace h := bif_f hb59 h
      refine c_exit ?_
      refine q_then_x ?_
      refine q_then_x ?_
      refine q_blk_hit ?_
      obtain rfl := Option.some.inj h
      obtain rfl := hres _ rfl
      exact ⟨rfl, _, σ58, fr_join ⟨rfl, rfl, rfl, rfl, rfl, trivial⟩, rfl, H.sel' [0] rfl rfl⟩
   ·clear hj
    have h := h'
    clear h' H
    rintro e a w ⟨rfl, ρ, σ60, rfl, rfl, H⟩
    refine q_then ?_
    refine c_seq ?_
    obtain ⟨o61, hj, h'⟩ := bind_some h
    clear h
    refine c_cut (fun e a w => e = .normal ∧ ∃ (ρ : Nat → Value) (σ : St), a = fr 90 (updL ρ [(0, (Sl adata_0 s28.1 cdata_0)), (1, (I a_1)), (4, (.func (.func 89) #[] #[])), (11, (I o31)), (12, (I o61))]) ∧ w = σ.w ∧ Hp S0 σ0 σ [Ch.own 0 0 (Sl adata_0 s28.1 cdata_0) s28.1]) ?_ ?_
    ·clear h'
     rename _ = some o61 => h
     refine c_blk ?_
     refine wp_loopM _ h (fun s62 a w => ∃ (ρ : Nat → Value) (σ : St), a = fr 90 (updL ρ [(0, (Sl adata_0 s28.1 cdata_0)), (1, (I a_1)), (4, (.func (.func 89) #[] #[])), (11, (I o31)), (12, (I s62))]) ∧ w = σ.w ∧ Hp S0 σ0 σ [Ch.own 0 0 (Sl adata_0 s28.1 cdata_0) s28.1]) ⟨_, σ60, fr_join ⟨rfl, rfl, rfl, rfl, rfl, trivial⟩, rfl, H.sel' [0] rfl rfl⟩ ?_
     clear h H
     rintro s62 a w o ⟨ρ, σ63, rfl, rfl, H⟩ h hres
     refine c_seq ?_
     refine c_seq ?_
     obtain ⟨o64, hj, h'⟩ := bind_some h
     clear h
     refine c_cut (fun e a w => e = .normal ∧ ∃ (ρ : Nat → Value) (σ : St), a = fr 90 (updL ρ [(0, (Sl adata_0 s28.1 cdata_0)), (1, (I a_1)), (4, (.func (.func 89) #[] #[])), (11, (I o31)), (12, (I s62)), (65, (B o64))]) ∧ w = σ.w ∧ Hp S0 σ0 σ [Ch.own 0 0 (Sl adata_0 s28.1 cdata_0) s28.1]) ?_ ?_
     ·clear h'
      rename _ = some o64 => h
      refine rgP (σ := σ63) 13 (by kernel_rfl) (by kernel_rfl) (by kernel_rfl) ?_
      refine sq (v := (I o31)) (rv_move rfl) ?_
      refine sq (v := (I s62)) (rv_move rfl) ?_
      refine sq (v := (B (decide (o31 ≤ s62)))) (rv_leq (a := o31) (b := s62) rfl rfl) ?_
      refine sq (v := (B (decide (o31 ≤ s62)))) (rv_move rfl) ?_
      rcases Bool.eq_false_or_eq_true (decide (o31 ≤ s62)) with hb65 | hb65
      ·replace h := bif_t hb65 h
       refine sq_g (v := (.func (.func 89) #[] #[])) (congrArg some hb65) (rv_move rfl) ?_
       refine sq_g (v := (Sl adata_0 s28.1 cdata_0)) (congrArg some hb65) (rv_move rfl) ?_
       refine sq_g (v := (I a_1)) (congrArg some hb65) (rv_move rfl) ?_
       obtain ⟨x66, hx67, h'⟩ := bind_some h
       clear h
       have h := h'; clear h'
       obtain ⟨b69, o70, hi68, -⟩ := (H.own 0 rfl).ix hx67
       refine sq_g (v := (pt b69 o70)) (congrArg some hb65) (rv_ix Try.underlying27 ti33 rfl rfl hi68) ?_
       obtain ⟨_, ⟨_, _, rfl, rfl, rfl⟩, hl71, hc72⟩ := ((H.own 0 rfl).at hx67 hi68).cells
       refine sq_g (v := (.agg #[(I x66.1), (I x66.2)])) (congrArg some hb65) (rv_load Try.underlying33 rfl ti33 rfl hl71 hc72) ?_
       refine sq_g (v := (Sl adata_0 s28.1 cdata_0)) (congrArg some hb65) (rv_move rfl) ?_
       refine sq_g (v := (I s62)) (congrArg some hb65) (rv_move rfl) ?_
       obtain ⟨x73, hx74, h'⟩ := bind_some h
       clear h
       have h := h'; clear h'
       obtain ⟨b76, o77, hi75, -⟩ := (H.own 0 rfl).ix hx74
       refine sq_g (v := (pt b76 o77)) (congrArg some hb65) (rv_ix Try.underlying27 ti33 rfl rfl hi75) ?_
       obtain ⟨_, ⟨_, _, rfl, rfl, rfl⟩, hl78, hc79⟩ := ((H.own 0 rfl).at hx74 hi75).cells
       refine sq_g (v := (.agg #[(I x73.1), (I x73.2)])) (congrArg some hb65) (rv_load Try.underlying33 rfl ti33 rfl hl78 hc79) ?_
       refine sq_end ?_
       intro σ80 hm81
       replace H := H.grow (hm81.mono fun _ h => h); clear hm81
       obtain ⟨r82, hx83, h'⟩ := bind_some h
       clear h
       have h := h'; clear h'
       have hc84 := c_impl_compareHits hx83
       refine st_call (cx_call hc84 (ent_v (cap := []) hc84.fn rfl rfl) hn0 (show Hp S0 σ0 _ ([] ++ [Ch.own 0 0 (Sl adata_0 s28.1 cdata_0) s28.1]) from (H.sel' [0] rfl rfl))) (wanted_yes rfl (by exact (congrArg some hb65))) ?_
       rintro _ σ85 ⟨_, ⟨rfl, rfl⟩, H, -⟩
       replace H : Hp S0 σ0 σ85 [Ch.own 0 0 (Sl adata_0 s28.1 cdata_0) s28.1] := H
       refine st_g (v := (B (decide (r82 < 0)))) (congrArg some hb65) (rv_lss (a := r82) (b := 0) rfl rfl) ?_
       refine st (v := (B (decide (r82 < 0)))) (rv_pick_t (congrArg B hb65) rfl) ?_
       refine w_end ?_
       obtain rfl := Option.some.inj h
       exact ⟨rfl, _, σ85, fr_join ⟨rfl, rfl, rfl, rfl, rfl, rfl, trivial⟩, rfl, H.sel' [0] rfl rfl⟩
      ·replace h := bif_f hb65 h
       refine sq_skip (congrArg some hb65) ?_
       refine sq_skip (congrArg some hb65) ?_
       refine sq_skip (congrArg some hb65) ?_
       refine sq_skip (congrArg some hb65) ?_
       refine sq_skip (congrArg some hb65) ?_
       refine sq_skip (congrArg some hb65) ?_
       refine sq_skip (congrArg some hb65) ?_
       refine sq_skip (congrArg some hb65) ?_
       refine sq_skip (congrArg some hb65) ?_
       refine sq_end ?_
       intro σ86 hm87
       replace H := H.grow (hm87.mono fun _ h => h); clear hm87
       refine st_skip (congrArg some hb65) ?_
       refine st_skip (congrArg some hb65) ?_
       refine st (v := (B false)) (rv_pick_f (congrArg B hb65) rfl) ?_
       refine w_end ?_
       obtain rfl := Option.some.inj h
       exact ⟨rfl, _, σ86, fr_join ⟨rfl, rfl, rfl, rfl, rfl, rfl, trivial⟩, rfl, H.sel' [0] rfl rfl⟩
     ·clear hj
      have h := h'
      clear h' H
      rintro e a w ⟨rfl, ρ, σ88, rfl, rfl, H⟩
      refine q_then ?_
      refine cd_cond o64 rfl (fun hb89 => ?_) (fun hb89 => ?_)
      ·replace h := bif_t hb89 h
       refine c_skip ?_
       refine q_then ?_
       refine c_blk ?_
       refine rg ?_
       refine st (v := (I s62)) (rv_move rfl) ?_
       refine st (v := (I (w64 (s62 - 1)))) (rv_sub (a := s62) (b := 1) rfl rfl) ?_
       refine st (v := (I (w64 (s62 - 1)))) (rv_assign rfl) ?_
       refine w_end ?_
       refine q_blk ?_
       refine q_then ?_
       obtain rfl := Option.some.inj h
       exact ⟨_, rfl, _, σ88, fr_join ⟨rfl, rfl, rfl, rfl, rfl, trivial⟩, rfl, H.sel' [0] rfl rfl⟩
      ·replace h := bif_f hb89 h
       refine c_exit ?_
       refine q_then_x ?_
       refine q_then_x ?_
       refine q_blk_hit ?_
       obtain rfl := Option.some.inj h
       obtain rfl := hres _ rfl
       exact ⟨rfl, _, σ88, fr_join ⟨rfl, rfl, rfl, rfl, rfl, trivial⟩, rfl, H.sel' [0] rfl rfl⟩
    ·clear hj
     have h := h'
     clear h' H
     rintro e a w ⟨rfl, ρ, σ90, rfl, rfl, H⟩
     refine q_then ?_
     refine c_seq ?_
     refine c_seq ?_
     refine rg ?_
     refine st (v := (I o31)) (rv_move rfl) ?_
     refine st (v := (I o61)) (rv_move rfl) ?_
     refine st (v := (B (decide (o61 < o31)))) (rv_gtr (a := o31) (b := o61) rfl rfl) ?_
     refine w_end ?_
     refine q_then ?_
     refine cd_cond (decide (o61 < o31)) rfl (fun hb91 => ?_) (fun hb91 => ?_)
     ·replace h := bif_t hb91 h
      refine c_exit ?_
      refine q_then_x ?_
      refine q_blk_x (by decide) ?_
      refine q_then_x ?_
      refine q_blk_hit ?_
      obtain rfl := Option.some.inj h
      obtain rfl := hres _ rfl
      exact ⟨rfl, _, σ90, fr_join ⟨rfl, rfl, trivial⟩, rfl, H.sel' [0] rfl rfl, ((hn30.trans (List.length_set.trans List.length_set)).trans (List.length_set.trans List.length_set).symm)⟩
     ·replace h := bif_f hb91 h
      refine c_skip ?_
      refine q_then ?_
      refine c_seq ?_
      obtain ⟨x92, hx93, h'⟩ := bind_some h
      clear h
      have h := h'; clear h'
      obtain ⟨b95, o96, hi94, -⟩ := (H.own 0 rfl).ix hx93
      obtain ⟨_, ⟨_, _, rfl, rfl, rfl⟩, hl97, hc98⟩ := ((H.own 0 rfl).at hx93 hi94).cells
      obtain ⟨x99, hx100, h'⟩ := bind_some h
      clear h
      have h := h'; clear h'
      obtain ⟨b102, o103, hi101, -⟩ := (H.own 0 rfl).ix hx100
      obtain ⟨_, ⟨_, _, rfl, rfl, rfl⟩, hl104, hc105⟩ := ((H.own 0 rfl).at hx100 hi101).cells
      obtain ⟨x106, hx107, h'⟩ := bind_some h
      clear h
      have h := h'; clear h'
      obtain ⟨b109, o110, hi108, -⟩ := (H.own 0 rfl).ix hx107
      have Hs := H
      refine rg2 (σ := σ90) (Nm := Unit) 14 [13] [[false], [true]] [[(0, 0)], [(0, 0)], [(0, 0), (1, 1)], [(0, 0), (1, 1)], [(0, 0)], [(0, 0)], [(0, 0)], [(0, 0)], [(0, 0)], [(0, 0)], [(0, 0)], [(0, 0)], [(0, 0)], [(0, 1)]] 1 [fun (_nm : Unit) => fun σm => Hp S0 σ0 σm [Ch.own 0 0 (Sl adata_0 s28.1 cdata_0) s28.1] ∧ Md (cov []) σ90 σm, fun (_nm : Unit) => fun σm => Hp S0 σ0 σm [Ch.own 0 0 (Sl adata_0 s28.1 cdata_0) (s28.1.set o31.toNat (x92.1, x92.2))] ∧ Md (fun i => (cov []) i ∨ (fun b => blk (Sl adata_0 s28.1 cdata_0) = some b) i) σ90 σm] [fun (_nm : Unit) => (Sl adata_0 s28.1 cdata_0), fun (_nm : Unit) => (I o31), fun (_nm : Unit) => (Sl adata_0 s28.1 cdata_0), fun (_nm : Unit) => (I o61), fun (_nm : Unit) => (Sl adata_0 s28.1 cdata_0), fun (_nm : Unit) => (I o61), fun (_nm : Unit) => (pt b95 o96), fun (_nm : Unit) => (.agg #[(I x92.1), (I x92.2)]), fun (_nm : Unit) => (Sl adata_0 s28.1 cdata_0), fun (_nm : Unit) => (I o31), fun (_nm : Unit) => (pt b102 o103), fun (_nm : Unit) => (.agg #[(I x99.1), (I x99.2)]), fun (_nm : Unit) => (pt b109 o110), fun (_nm : Unit) => undef] () (by kernel_rfl) (by kernel_rfl) ?_ ?_ ?_
      ·intro σm m0
       exact ⟨H.grow (m0.mono fun _ h => h.elim), m0⟩
      ·refine all_cons (obs_v rfl (by
         intro k; intro _nm ρ σm hJ hoff hdep
         have e0 : look 90 ρ 0 = (Sl adata_0 s28.1 cdata_0) := look_off (hoff 0 rfl) rfl
         exact dp_v (v := (Sl adata_0 s28.1 cdata_0)) (wanted_none _ rfl _) (rv_move e0) rfl hJ)) ?_
       refine all_cons (obs_v rfl (by
         intro k; intro _nm ρ σm hJ hoff hdep
         have e11 : look 90 ρ 11 = (I o31) := look_off (hoff 11 rfl) rfl
         exact dp_v (v := (I o31)) (wanted_none _ rfl _) (rv_move e11) rfl hJ)) ?_
       refine all_cons (obs_v rfl (by
         intro k; intro _nm ρ σm hJ hoff hdep
         have e0 : look 90 ρ 0 = (Sl adata_0 s28.1 cdata_0) := look_off (hoff 0 rfl) rfl
         exact dp_v (v := (Sl adata_0 s28.1 cdata_0)) (wanted_none _ rfl _) (rv_move e0) rfl hJ)) ?_
       refine all_cons (obs_v rfl (by
         intro k; intro _nm ρ σm hJ hoff hdep
         have e12 : look 90 ρ 12 = (I o61) := look_off (hoff 12 rfl) rfl
         exact dp_v (v := (I o61)) (wanted_none _ rfl _) (rv_move e12) rfl hJ)) ?_
       refine all_cons (obs_v rfl (by
         intro k; intro _nm ρ σm hJ hoff hdep
         have e0 : look 90 ρ 0 = (Sl adata_0 s28.1 cdata_0) := look_off (hoff 0 rfl) rfl
         exact dp_v (v := (Sl adata_0 s28.1 cdata_0)) (wanted_none _ rfl _) (rv_move e0) rfl hJ)) ?_
       refine all_cons (obs_v rfl (by
         intro k; intro _nm ρ σm hJ hoff hdep
         have e12 : look 90 ρ 12 = (I o61) := look_off (hoff 12 rfl) rfl
         exact dp_v (v := (I o61)) (wanted_none _ rfl _) (rv_move e12) rfl hJ)) ?_
       refine all_cons (obs_v rfl (by
         intro k; intro _nm ρ σm hJ hoff hdep
         have e75 : look 90 ρ 75 = (Sl adata_0 s28.1 cdata_0) := hdep 4 rfl rfl 75 rfl
         have e76 : look 90 ρ 76 = (I o61) := hdep 5 rfl rfl 76 rfl
         exact dp_v (v := (pt b95 o96)) (wanted_none _ rfl _) (rv_ix Try.underlying27 ti33 e75 e76 hi94) rfl hJ)) ?_
       refine all_cons (by
         refine ⟨?_, ?_⟩
         ·intro _nm ρ σm hJ hoff hdep
          have e77 : look 90 ρ 77 = (pt b95 o96) := hdep 6 rfl rfl 77 rfl
          obtain ⟨H, m⟩ := id hJ
          obtain ⟨_, ⟨_, _, rfl, rfl, rfl⟩, hl97, hc98⟩ := ((H.own 0 rfl).at hx93 hi94).cells
          exact dp_v (v := (.agg #[(I x92.1), (I x92.2)])) (wanted_none _ rfl _) (rv_load Try.underlying33 rfl ti33 e77 hl97 hc98) rfl hJ
         trivial) ?_
       refine all_cons (obs_v rfl (by
         intro k; intro _nm ρ σm hJ hoff hdep
         have e0 : look 90 ρ 0 = (Sl adata_0 s28.1 cdata_0) := look_off (hoff 0 rfl) rfl
         exact dp_v (v := (Sl adata_0 s28.1 cdata_0)) (wanted_none _ rfl _) (rv_move e0) rfl hJ)) ?_
       refine all_cons (obs_v rfl (by
         intro k; intro _nm ρ σm hJ hoff hdep
         have e11 : look 90 ρ 11 = (I o31) := look_off (hoff 11 rfl) rfl
         exact dp_v (v := (I o31)) (wanted_none _ rfl _) (rv_move e11) rfl hJ)) ?_
       refine all_cons (obs_v rfl (by
         intro k; intro _nm ρ σm hJ hoff hdep
         have e79 : look 90 ρ 79 = (Sl adata_0 s28.1 cdata_0) := hdep 8 rfl rfl 79 rfl
         have e80 : look 90 ρ 80 = (I o31) := hdep 9 rfl rfl 80 rfl
         exact dp_v (v := (pt b102 o103)) (wanted_none _ rfl _) (rv_ix Try.underlying27 ti33 e79 e80 hi101) rfl hJ)) ?_
       refine all_cons (by
         refine ⟨?_, ?_⟩
         ·intro _nm ρ σm hJ hoff hdep
          have e81 : look 90 ρ 81 = (pt b102 o103) := hdep 10 rfl rfl 81 rfl
          obtain ⟨H, m⟩ := id hJ
          obtain ⟨_, ⟨_, _, rfl, rfl, rfl⟩, hl104, hc105⟩ := ((H.own 0 rfl).at hx100 hi101).cells
          exact dp_v (v := (.agg #[(I x99.1), (I x99.2)])) (wanted_none _ rfl _) (rv_load Try.underlying33 rfl ti33 e81 hl104 hc105) rfl hJ
         trivial) ?_
       refine all_cons (obs_v rfl (by
         intro k; intro _nm ρ σm hJ hoff hdep
         have e71 : look 90 ρ 71 = (Sl adata_0 s28.1 cdata_0) := hdep 0 rfl rfl 71 rfl
         have e72 : look 90 ρ 72 = (I o31) := hdep 1 rfl rfl 72 rfl
         exact dp_v (v := (pt b109 o110)) (wanted_none _ rfl _) (rv_ix Try.underlying27 ti33 e71 e72 hi108) rfl hJ)) ?_
       refine all_cons (by
         refine ⟨?_, ?_⟩
         ·intro _nm ρ σm hJ hoff hdep
          have e83 : look 90 ρ 83 = (pt b109 o110) := hdep 12 rfl rfl 83 rfl
          have e78 : look 90 ρ 78 = (.agg #[(I x92.1), (I x92.2)]) := hdep 7 rfl rfl 78 rfl
          obtain ⟨H, m⟩ := id hJ
          refine dp_exS (wanted_none _ rfl _) rfl (ex_store_own (e' := (x92.1, x92.2)) (vs := [(I x92.1), (I x92.2)]) (k := 0) H (i := 0) rfl ti33 hx107 hi108 e83 rfl e78 rfl rfl (Nat.le_of_ble_eq_true rfl) (by simp [plain]) (by rintro _ ⟨_, _, rfl, rfl, rfl⟩; exact ⟨[(I x92.1)], [(I x92.2)], rfl, rfl, rfl⟩)) ?_
          rintro σq ⟨H2, m2⟩
          exact ⟨_, (), rfl, ⟨H2.sel' [0] rfl rfl, m.comp m2⟩, stab [0, 1, 2, 3, 4, 5, 6, 7, 8, 9, 10, 11, 12] (by kernel_rfl) ⟨rfl, rfl, rfl, rfl, rfl, rfl, rfl, rfl, rfl, rfl, rfl, rfl, rfl, trivial⟩⟩
         trivial) ?_
       exact all_nil
      ·intro _nm ρ σ111 hJ hoff hrel
       have e0 : look 90 ρ 0 = (Sl adata_0 s28.1 cdata_0) := look_off (hoff 0 rfl) rfl
       have e1 : look 90 ρ 1 = (I a_1) := look_off (hoff 1 rfl) rfl
       have e4 : look 90 ρ 4 = (.func (.func 89) #[] #[]) := look_off (hoff 4 rfl) rfl
       have e11 : look 90 ρ 11 = (I o31) := look_off (hoff 11 rfl) rfl
       have e12 : look 90 ρ 12 = (I o61) := look_off (hoff 12 rfl) rfl
       have e73 : look 90 ρ 73 = (Sl adata_0 s28.1 cdata_0) := hrel 2 rfl 73 rfl
       have e74 : look 90 ρ 74 = (I o61) := hrel 3 rfl 74 rfl
       have e82 : look 90 ρ 82 = (.agg #[(I x99.1), (I x99.2)]) := hrel 11 rfl 82 rfl
       obtain ⟨H, -⟩ := (show Hp S0 σ0 σ111 [Ch.own 0 0 (Sl adata_0 s28.1 cdata_0) (s28.1.set o31.toNat (x92.1, x92.2))] ∧ Md (fun i => (cov []) i ∨ (fun b => blk (Sl adata_0 s28.1 cdata_0) = some b) i) σ90 σ111 from hJ)
       clear hJ Hs
       rw [fr_lookL (L := [(0, (Sl adata_0 s28.1 cdata_0)), (1, (I a_1)), (4, (.func (.func 89) #[] #[])), (11, (I o31)), (12, (I o61)), (73, (Sl adata_0 s28.1 cdata_0)), (74, (I o61)), (82, (.agg #[(I x99.1), (I x99.2)]))]) ⟨e0, e1, e4, e11, e12, e73, e74, e82, trivial⟩]
       clear hoff hrel e0 e1 e4 e11 e12 e73 e74 e82
       have hsl : (Sl adata_0 s28.1 cdata_0) = (Sl adata_0 (s28.1.set o31.toNat (x92.1, x92.2)) cdata_0) := sl_len (by simp)
       rw [hsl]; rw [hsl] at H; clear hsl
       obtain ⟨x112, hx113, h'⟩ := bind_some h
       clear h
       have h := h'; clear h'
       obtain ⟨b115, o116, hi114, -⟩ := (H.own 0 rfl).ix hx113
       refine st (v := (pt b115 o116)) (rv_ix Try.underlying27 ti33 rfl rfl hi114) ?_
       refine st_exS (ex_store_own (e' := (x99.1, x99.2)) (vs := [(I x99.1), (I x99.2)]) (k := 0) H (i := 0) rfl ti33 hx113 hi114 rfl rfl rfl rfl rfl (Nat.le_of_ble_eq_true rfl) (by simp [plain]) (by rintro _ ⟨_, _, rfl, rfl, rfl⟩; exact ⟨[(I x99.1)], [(I x99.2)], rfl, rfl, rfl⟩)) (wanted_none _ rfl _) ?_
       rintro σ117 ⟨H, -⟩
       have hsl : (Sl adata_0 (s28.1.set o31.toNat (x92.1, x92.2)) cdata_0) = (Sl adata_0 ((s28.1.set o31.toNat (x92.1, x92.2)).set o61.toNat (x99.1, x99.2)) cdata_0) := sl_len List.length_set.symm
       rw [hsl]; rw [hsl] at H; clear hsl
       refine w_end ?_
       refine q_then ?_
       refine c_seq ?_
       refine rg ?_
       refine st (v := (I o31)) (rv_move rfl) ?_
       refine st (v := (I (w64 (o31 + 1)))) (rv_add (a := o31) (b := 1) rfl rfl) ?_
       refine st (v := (I (w64 (o31 + 1)))) (rv_assign rfl) ?_
       refine w_end ?_
       refine q_then ?_
       refine rg ?_
       refine st (v := (I o61)) (rv_move rfl) ?_
       refine st (v := (I (w64 (o61 - 1)))) (rv_sub (a := o61) (b := 1) rfl rfl) ?_
       refine st (v := (I (w64 (o61 - 1)))) (rv_assign rfl) ?_
       refine w_end ?_
       refine q_blk ?_
       refine q_then ?_
       obtain rfl := Option.some.inj h
       exact ⟨_, rfl, _, σ117, fr_join ⟨rfl, rfl, rfl, rfl, rfl, trivial⟩, rfl, H.sel' [0] rfl rfl, ((List.length_set.trans (List.length_set.trans (hn30.trans (List.length_set.trans List.length_set)))).trans (List.length_set.trans List.length_set).symm)⟩
  ·clear hj
   have h := h'
   clear h' H
   rintro e a w ⟨rfl, ρ, σ118, rfl, rfl, H, hn119⟩
   refine q_then ?_
   refine c_seq ?_
   refine rg ?_
   refine st (v := (I o27.2)) (rv_move rfl) ?_
   refine st (v := (I o27.2)) (rv_assign rfl) ?_
   refine w_end ?_
   refine q_then ?_
   refine c_ret ?_
   obtain rfl := Option.some.inj h
   exact fin_ret (v := (I o27.2)) (results_ok Try.results140 (res_tmp (v := (I o27.2)) rfl res_nil) rfl) ⟨rfl, rfl, (hn119.trans (List.length_set.trans List.length_set))⟩ (H.sel' [0] rfl rfl)

theorem c_slices_partitionCmpFunc_impl_Hit__impl_compareHits {data_0 : List (Int × Int)} {a_1 : Int} {b_2 : Int} {pivot_3 : Int} {adata_0 : Option Addr} {cdata_0 : Nat} {r : Int × Bool × (List (Int × Int))} (h : M.slices_partitionCmpFunc_impl_Hit__impl_compareHits data_0 a_1 b_2 pivot_3 = some r) :
    Cal2 Try.prog 141 [(Sl adata_0 data_0 cdata_0), (I a_1), (I b_2), (I pivot_3), (.func (.func 89) #[] #[])] [Ch.own 0 0 (Sl adata_0 data_0 cdata_0) data_0] (fun n0 v L => v = (.tuple #[(I r.1), (B r.2.1)]) ∧ L = [Ch.own 0 0 (Sl adata_0 r.2.2 cdata_0) r.2.2] ∧ r.2.2.length = data_0.length) := by
 refine cal2 (n := 178) Try.func141 rfl rfl rfl rfl ?_
 intro S0 σ0 n0 hn0 H
 unfold M.slices_partitionCmpFunc_impl_Hit__impl_compareHits at h
 refine c_seq ?_
 refine rg ?_
 refine st (v := (I 0)) (rv_assign rfl) ?_
 refine st (v := (B false)) (rv_assign rfl) ?_
 refine w_end ?_
 refine q_then ?_
 refine c_seq ?_
 obtain ⟨x1, hx2, h'⟩ := bind_some h
 clear h
 have h := h'; clear h'
 obtain ⟨b4, o5, hi3, -⟩ := (H.own 0 rfl).ix hx2
 obtain ⟨_, ⟨_, _, rfl, rfl, rfl⟩, hl6, hc7⟩ := ((H.own 0 rfl).at hx2 hi3).cells
 obtain ⟨x8, hx9, h'⟩ := bind_some h
 clear h
 have h := h'; clear h'
 obtain ⟨b11, o12, hi10, -⟩ := (H.own 0 rfl).ix hx9
 obtain ⟨_, ⟨_, _, rfl, rfl, rfl⟩, hl13, hc14⟩ := ((H.own 0 rfl).at hx9 hi10).cells
 obtain ⟨x15, hx16, h'⟩ := bind_some h
 clear h
 have h := h'; clear h'
 obtain ⟨b18, o19, hi17, -⟩ := (H.own 0 rfl).ix hx16
 have Hs := H
 refine rg2 (σ := σ0) (Nm := Unit) 14 [13] [[false], [true]] [[(0, 0)], [(0, 0)], [(0, 0), (1, 1)], [(0, 0), (1, 1)], [(0, 0)], [(0, 0)], [(0, 0)], [(0, 0)], [(0, 0)], [(0, 0)], [(0, 0)], [(0, 0)], [(0, 0)], [(0, 1)]] 1 [fun (_nm : Unit) => fun σm => Hp S0 σ0 σm [Ch.own 0 0 (Sl adata_0 data_0 cdata_0) data_0] ∧ Md (cov []) σ0 σm, fun (_nm : Unit) => fun σm => Hp S0 σ0 σm [Ch.own 0 0 (Sl adata_0 data_0 cdata_0) (data_0.set a_1.toNat (x1.1, x1.2))] ∧ Md (fun i => (cov []) i ∨ (fun b => blk (Sl adata_0 data_0 cdata_0) = some b) i) σ0 σm] [fun (_nm : Unit) => (Sl adata_0 data_0 cdata_0), fun (_nm : Unit) => (I a_1), fun (_nm : Unit) => (Sl adata_0 data_0 cdata_0), fun (_nm : Unit) => (I pivot_3), fun (_nm : Unit) => (Sl adata_0 data_0 cdata_0), fun (_nm : Unit) => (I pivot_3), fun (_nm : Unit) => (pt b4 o5), fun (_nm : Unit) => (.agg #[(I x1.1), (I x1.2)]), fun (_nm : Unit) => (Sl adata_0 data_0 cdata_0), fun (_nm : Unit) => (I a_1), fun (_nm : Unit) => (pt b11 o12), fun (_nm : Unit) => (.agg #[(I x8.1), (I x8.2)]), fun (_nm : Unit) => (pt b18 o19), fun (_nm : Unit) => undef] () (by kernel_rfl) (by kernel_rfl) ?_ ?_ ?_
 ·intro σm m0
  exact ⟨H.grow (m0.mono fun _ h => h.elim), m0⟩
 ·refine all_cons (obs_v rfl (by
    intro k; intro _nm ρ σm hJ hoff hdep
    have e0 : look 178 ρ 0 = (Sl adata_0 data_0 cdata_0) := look_off (hoff 0 rfl) rfl
    exact dp_v (v := (Sl adata_0 data_0 cdata_0)) (wanted_none _ rfl _) (rv_move e0) rfl hJ)) ?_
  refine all_cons (obs_v rfl (by
    intro k; intro _nm ρ σm hJ hoff hdep
    have e1 : look 178 ρ 1 = (I a_1) := look_off (hoff 1 rfl) rfl
    exact dp_v (v := (I a_1)) (wanted_none _ rfl _) (rv_move e1) rfl hJ)) ?_
  refine all_cons (obs_v rfl (by
    intro k; intro _nm ρ σm hJ hoff hdep
    have e0 : look 178 ρ 0 = (Sl adata_0 data_0 cdata_0) := look_off (hoff 0 rfl) rfl
    exact dp_v (v := (Sl adata_0 data_0 cdata_0)) (wanted_none _ rfl _) (rv_move e0) rfl hJ)) ?_
  refine all_cons (obs_v rfl (by
    intro k; intro _nm ρ σm hJ hoff hdep
    have e3 : look 178 ρ 3 = (I pivot_3) := look_off (hoff 3 rfl) rfl
    exact dp_v (v := (I pivot_3)) (wanted_none _ rfl _) (rv_move e3) rfl hJ)) ?_
  refine all_cons (obs_v rfl (by
    intro k; intro _nm ρ σm hJ hoff hdep
    have e0 : look 178 ρ 0 = (Sl adata_0 data_0 cdata_0) := look_off (hoff 0 rfl) rfl
    exact dp_v (v := (Sl adata_0 data_0 cdata_0)) (wanted_none _ rfl _) (rv_move e0) rfl hJ)) ?_
  refine all_cons (obs_v rfl (by
    intro k; intro _nm ρ σm hJ hoff hdep
    have e3 : look 178 ρ 3 = (I pivot_3) := look_off (hoff 3 rfl) rfl
    exact dp_v (v := (I pivot_3)) (wanted_none _ rfl _) (rv_move e3) rfl hJ)) ?_
  refine all_cons (obs_v rfl (by
    intro k; intro _nm ρ σm hJ hoff hdep
    have e18 : look 178 ρ 18 = (Sl adata_0 data_0 cdata_0) := hdep 4 rfl rfl 18 rfl
    have e19 : look 178 ρ 19 = (I pivot_3) := hdep 5 rfl rfl 19 rfl
    exact dp_v (v := (pt b4 o5)) (wanted_none _ rfl _) (rv_ix Try.underlying27 ti33 e18 e19 hi3) rfl hJ)) ?_
  refine all_cons (by
    refine ⟨?_, ?_⟩
    ·intro _nm ρ σm hJ hoff hdep
     have e20 : look 178 ρ 20 = (pt b4 o5) := hdep 6 rfl rfl 20 rfl
     obtain ⟨H, m⟩ := id hJ
     obtain ⟨_, ⟨_, _, rfl, rfl, rfl⟩, hl6, hc7⟩ := ((H.own 0 rfl).at hx2 hi3).cells
     exact dp_v (v := (.agg #[(I x1.1), (I x1.2)])) (wanted_none _ rfl _) (rv_load Try.underlying33 rfl ti33 e20 hl6 hc7) rfl hJ
    trivial) ?_
  refine all_cons (obs_v rfl (by
    intro k; intro _nm ρ σm hJ hoff hdep
    have e0 : look 178 ρ 0 = (Sl adata_0 data_0 cdata_0) := look_off (hoff 0 rfl) rfl
    exact dp_v (v := (Sl adata_0 data_0 cdata_0)) (wanted_none _ rfl _) (rv_move e0) rfl hJ)) ?_
  refine all_cons (obs_v rfl (by
    intro k; intro _nm ρ σm hJ hoff hdep
    have e1 : look 178 ρ 1 = (I a_1) := look_off (hoff 1 rfl) rfl
    exact dp_v (v := (I a_1)) (wanted_none _ rfl _) (rv_move e1) rfl hJ)) ?_
  refine all_cons (obs_v rfl (by
    intro k; intro _nm ρ σm hJ hoff hdep
    have e22 : look 178 ρ 22 = (Sl adata_0 data_0 cdata_0) := hdep 8 rfl rfl 22 rfl
    have e23 : look 178 ρ 23 = (I a_1) := hdep 9 rfl rfl 23 rfl
    exact dp_v (v := (pt b11 o12)) (wanted_none _ rfl _) (rv_ix Try.underlying27 ti33 e22 e23 hi10) rfl hJ)) ?_
  refine all_cons (by
    refine ⟨?_, ?_⟩
    ·intro _nm ρ σm hJ hoff hdep
     have e24 : look 178 ρ 24 = (pt b11 o12) := hdep 10 rfl rfl 24 rfl
     obtain ⟨H, m⟩ := id hJ
     obtain ⟨_, ⟨_, _, rfl, rfl, rfl⟩, hl13, hc14⟩ := ((H.own 0 rfl).at hx9 hi10).cells
     exact dp_v (v := (.agg #[(I x8.1), (I x8.2)])) (wanted_none _ rfl _) (rv_load Try.underlying33 rfl ti33 e24 hl13 hc14) rfl hJ
    trivial) ?_
  refine all_cons (obs_v rfl (by
    intro k; intro _nm ρ σm hJ hoff hdep
    have e14 : look 178 ρ 14 = (Sl adata_0 data_0 cdata_0) := hdep 0 rfl rfl 14 rfl
    have e15 : look 178 ρ 15 = (I a_1) := hdep 1 rfl rfl 15 rfl
    exact dp_v (v := (pt b18 o19)) (wanted_none _ rfl _) (rv_ix Try.underlying27 ti33 e14 e15 hi17) rfl hJ)) ?_
  refine all_cons (by
    refine ⟨?_, ?_⟩
    ·intro _nm ρ σm hJ hoff hdep
     have e26 : look 178 ρ 26 = (pt b18 o19) := hdep 12 rfl rfl 26 rfl
     have e21 : look 178 ρ 21 = (.agg #[(I x1.1), (I x1.2)]) := hdep 7 rfl rfl 21 rfl
     obtain ⟨H, m⟩ := id hJ
     refine dp_exS (wanted_none _ rfl _) rfl (ex_store_own (e' := (x1.1, x1.2)) (vs := [(I x1.1), (I x1.2)]) (k := 0) H (i := 0) rfl ti33 hx16 hi17 e26 rfl e21 rfl rfl (Nat.le_of_ble_eq_true rfl) (by simp [plain]) (by rintro _ ⟨_, _, rfl, rfl, rfl⟩; exact ⟨[(I x1.1)], [(I x1.2)], rfl, rfl, rfl⟩)) ?_
     rintro σq ⟨H2, m2⟩
     exact ⟨_, (), rfl, ⟨H2.sel' [0] rfl rfl, m.comp m2⟩, stab [0, 1, 2, 3, 4, 5, 6, 7, 8, 9, 10, 11, 12] (by kernel_rfl) ⟨rfl, rfl, rfl, rfl, rfl, rfl, rfl, rfl, rfl, rfl, rfl, rfl, rfl, trivial⟩⟩
    trivial) ?_
  exact all_nil
 ·intro _nm ρ σ20 hJ hoff hrel
  have e0 : look 178 ρ 0 = (Sl adata_0 data_0 cdata_0) := look_off (hoff 0 rfl) rfl
  have e1 : look 178 ρ 1 = (I a_1) := look_off (hoff 1 rfl) rfl
  have e2 : look 178 ρ 2 = (I b_2) := look_off (hoff 2 rfl) rfl
  have e4 : look 178 ρ 4 = (.func (.func 89) #[] #[]) := look_off (hoff 4 rfl) rfl
  have e16 : look 178 ρ 16 = (Sl adata_0 data_0 cdata_0) := hrel 2 rfl 16 rfl
  have e17 : look 178 ρ 17 = (I pivot_3) := hrel 3 rfl 17 rfl
  have e25 : look 178 ρ 25 = (.agg #[(I x8.1), (I x8.2)]) := hrel 11 rfl 25 rfl
  obtain ⟨H, -⟩ := (show Hp S0 σ0 σ20 [Ch.own 0 0 (Sl adata_0 data_0 cdata_0) (data_0.set a_1.toNat (x1.1, x1.2))] ∧ Md (fun i => (cov []) i ∨ (fun b => blk (Sl adata_0 data_0 cdata_0) = some b) i) σ0 σ20 from hJ)
  clear hJ Hs
  rw [fr_lookL (L := [(0, (Sl adata_0 data_0 cdata_0)), (1, (I a_1)), (2, (I b_2)), (4, (.func (.func 89) #[] #[])), (16, (Sl adata_0 data_0 cdata_0)), (17, (I pivot_3)), (25, (.agg #[(I x8.1), (I x8.2)]))]) ⟨e0, e1, e2, e4, e16, e17, e25, trivial⟩]
  clear hoff hrel e0 e1 e2 e4 e16 e17 e25
  have hsl : (Sl adata_0 data_0 cdata_0) = (Sl adata_0 (data_0.set a_1.toNat (x1.1, x1.2)) cdata_0) := sl_len (by simp)
  rw [hsl]; rw [hsl] at H; clear hsl
  obtain ⟨x21, hx22, h'⟩ := bind_some h
  clear h
  have h := h'; clear h'
  obtain ⟨b24, o25, hi23, -⟩ := (H.own 0 rfl).ix hx22
  refine st (v := (pt b24 o25)) (rv_ix Try.underlying27 ti33 rfl rfl hi23) ?_
  refine st_exS (ex_store_own (e' := (x8.1, x8.2)) (vs := [(I x8.1), (I x8.2)]) (k := 0) H (i := 0) rfl ti33 hx22 hi23 rfl rfl rfl rfl rfl (Nat.le_of_ble_eq_true rfl) (by simp [plain]) (by rintro _ ⟨_, _, rfl, rfl, rfl⟩; exact ⟨[(I x8.1)], [(I x8.2)], rfl, rfl, rfl⟩)) (wanted_none _ rfl _) ?_
  rintro σ26 ⟨H, -⟩
  have hsl : (Sl adata_0 (data_0.set a_1.toNat (x1.1, x1.2)) cdata_0) = (Sl adata_0 ((data_0.set a_1.toNat (x1.1, x1.2)).set pivot_3.toNat (x8.1, x8.2)) cdata_0) := sl_len List.length_set.symm
  rw [hsl]; rw [hsl] at H; clear hsl
  refine w_end ?_
  refine q_then ?_
  refine c_seq ?_
  refine rg ?_
  refine st (v := (I a_1)) (rv_move rfl) ?_
  refine st (v := (I (w64 (a_1 + 1)))) (rv_add (a := a_1) (b := 1) rfl rfl) ?_
  refine st (v := (I b_2)) (rv_move rfl) ?_
  refine st (v := (I (w64 (b_2 - 1)))) (rv_sub (a := b_2) (b := 1) rfl rfl) ?_
  refine st (v := (I (w64 (a_1 + 1)))) (rv_assign rfl) ?_
  refine st (v := (I (w64 (b_2 - 1)))) (rv_assign rfl) ?_
  refine w_end ?_
  refine q_then ?_
  refine c_seq ?_
  obtain ⟨o27, hj, h'⟩ := bind_some h
  clear h
  refine c_cut (fun e a w => e = .normal ∧ ∃ (ρ : Nat → Value) (σ : St), a = fr 178 (updL ρ [(0, (Sl adata_0 ((data_0.set a_1.toNat (x1.1, x1.2)).set pivot_3.toNat (x8.1, x8.2)) cdata_0)), (1, (I a_1)), (4, (.func (.func 89) #[] #[])), (12, (I o27)), (13, (I (w64 (b_2 - 1))))]) ∧ w = σ.w ∧ Hp S0 σ0 σ [Ch.own 0 0 (Sl adata_0 ((data_0.set a_1.toNat (x1.1, x1.2)).set pivot_3.toNat (x8.1, x8.2)) cdata_0) ((data_0.set a_1.toNat (x1.1, x1.2)).set pivot_3.toNat (x8.1, x8.2))]) ?_ ?_
  ·clear h'
   rename _ = some o27 => h
   refine c_blk ?_
   refine wp_loopM _ h (fun s28 a w => ∃ (ρ : Nat → Value) (σ : St), a = fr 178 (updL ρ [(0, (Sl adata_0 ((data_0.set a_1.toNat (x1.1, x1.2)).set pivot_3.toNat (x8.1, x8.2)) cdata_0)), (1, (I a_1)), (4, (.func (.func 89) #[] #[])), (12, (I s28)), (13, (I (w64 (b_2 - 1))))]) ∧ w = σ.w ∧ Hp S0 σ0 σ [Ch.own 0 0 (Sl adata_0 ((data_0.set a_1.toNat (x1.1, x1.2)).set pivot_3.toNat (x8.1, x8.2)) cdata_0) ((data_0.set a_1.toNat (x1.1, x1.2)).set pivot_3.toNat (x8.1, x8.2))]) ⟨_, σ26, fr_join ⟨rfl, rfl, rfl, rfl, rfl, trivial⟩, rfl, H.sel' [0] rfl rfl⟩ ?_
   clear h H
   rintro s28 a w o ⟨ρ, σ29, rfl, rfl, H⟩ h hres
   refine c_seq ?_
   refine c_seq ?_
   obtain ⟨o30, hj, h'⟩ := bind_some h
   clear h
   refine c_cut (fun e a w => e = .normal ∧ ∃ (ρ : Nat → Value) (σ : St), a = fr 178 (updL ρ [(0, (Sl adata_0 ((data_0.set a_1.toNat (x1.1, x1.2)).set pivot_3.toNat (x8.1, x8.2)) cdata_0)), (1, (I a_1)), (4, (.func (.func 89) #[] #[])), (12, (I s28)), (13, (I (w64 (b_2 - 1)))), (47, (B o30))]) ∧ w = σ.w ∧ Hp S0 σ0 σ [Ch.own 0 0 (Sl adata_0 ((data_0.set a_1.toNat (x1.1, x1.2)).set pivot_3.toNat (x8.1, x8.2)) cdata_0) ((data_0.set a_1.toNat (x1.1, x1.2)).set pivot_3.toNat (x8.1, x8.2))]) ?_ ?_
   ·clear h'
    rename _ = some o30 => h
    refine rgP (σ := σ29) 13 (by kernel_rfl) (by kernel_rfl) (by kernel_rfl) ?_
    refine sq (v := (I s28)) (rv_move rfl) ?_
    refine sq (v := (I (w64 (b_2 - 1)))) (rv_move rfl) ?_
    refine sq (v := (B (decide (s28 ≤ (w64 (b_2 - 1)))))) (rv_leq (a := s28) (b := (w64 (b_2 - 1))) rfl rfl) ?_
    refine sq (v := (B (decide (s28 ≤ (w64 (b_2 - 1)))))) (rv_move rfl) ?_
    rcases Bool.eq_false_or_eq_true (decide (s28 ≤ (w64 (b_2 - 1)))) with hb31 | hb31
    ·replace h := bif_t hb31 h
     refine sq_g (v := (.func (.func 89) #[] #[])) (congrArg some hb31) (rv_move rfl) ?_
     refine sq_g (v := (Sl adata_0 ((data_0.set a_1.toNat (x1.1, x1.2)).set pivot_3.toNat (x8.1, x8.2)) cdata_0)) (congrArg some hb31) (rv_move rfl) ?_
     refine sq_g (v := (I s28)) (congrArg some hb31) (rv_move rfl) ?_
     obtain ⟨x32, hx33, h'⟩ := bind_some h
     clear h
     have h := h'; clear h'
     obtain ⟨b35, o36, hi34, -⟩ := (H.own 0 rfl).ix hx33
     refine sq_g (v := (pt b35 o36)) (congrArg some hb31) (rv_ix Try.underlying27 ti33 rfl rfl hi34) ?_
     obtain ⟨_, ⟨_, _, rfl, rfl, rfl⟩, hl37, hc38⟩ := ((H.own 0 rfl).at hx33 hi34).cells
     refine sq_g (v := (.agg #[(I x32.1), (I x32.2)])) (congrArg some hb31) (rv_load Try.underlying33 rfl ti33 rfl hl37 hc38) ?_
     refine sq_g (v := (Sl adata_0 ((data_0.set a_1.toNat (x1.1, x1.2)).set pivot_3.toNat (x8.1, x8.2)) cdata_0)) (congrArg some hb31) (rv_move rfl) ?_
     refine sq_g (v := (I a_1)) (congrArg some hb31) (rv_move rfl) ?_
     obtain ⟨x39, hx40, h'⟩ := bind_some h
     clear h
     have h := h'; clear h'
     obtain ⟨b42, o43, hi41, -⟩ := (H.own 0 rfl).ix hx40
     refine sq_g (v := (pt b42 o43)) (congrArg some hb31) (rv_ix Try.underlying27 ti33 rfl rfl hi41) ?_
     obtain ⟨_, ⟨_, _, rfl, rfl, rfl⟩, hl44, hc45⟩ := ((H.own 0 rfl).at hx40 hi41).cells
     refine sq_g (v := (.agg #[(I x39.1), (I x39.2)])) (congrArg some hb31) (rv_load Try.underlying33 rfl ti33 rfl hl44 hc45) ?_
     refine sq_end ?_
     intro σ46 hm47
     replace H := H.grow (hm47.mono fun _ h => h); clear hm47
     obtain ⟨r48, hx49, h'⟩ := bind_some h
     clear h
     have h := h'; clear h'
     have hc50 := c_impl_compareHits hx49
     refine st_call (cx_call hc50 (ent_v (cap := []) hc50.fn rfl rfl) hn0 (show Hp S0 σ0 _ ([] ++ [Ch.own 0 0 (Sl adata_0 ((data_0.set a_1.toNat (x1.1, x1.2)).set pivot_3.toNat (x8.1, x8.2)) cdata_0) ((data_0.set a_1.toNat (x1.1, x1.2)).set pivot_3.toNat (x8.1, x8.2))]) from (H.sel' [0] rfl rfl))) (wanted_yes rfl (by exact (congrArg some hb31))) ?_
     rintro _ σ51 ⟨_, ⟨rfl, rfl⟩, H, -⟩
     replace H : Hp S0 σ0 σ51 [Ch.own 0 0 (Sl adata_0 ((data_0.set a_1.toNat (x1.1, x1.2)).set pivot_3.toNat (x8.1, x8.2)) cdata_0) ((data_0.set a_1.toNat (x1.1, x1.2)).set pivot_3.toNat (x8.1, x8.2))] := H
     refine st_g (v := (B (decide (r48 < 0)))) (congrArg some hb31) (rv_lss (a := r48) (b := 0) rfl rfl) ?_
     refine st (v := (B (decide (r48 < 0)))) (rv_pick_t (congrArg B hb31) rfl) ?_
     refine w_end ?_
     obtain rfl := Option.some.inj h
     exact ⟨rfl, _, σ51, fr_join ⟨rfl, rfl, rfl, rfl, rfl, rfl, trivial⟩, rfl, H.sel' [0] rfl rfl⟩
    ·replace h := bif_f hb31 h
     refine sq_skip (congrArg some hb31) ?_
     refine sq_skip (congrArg some hb31) ?_
     refine sq_skip (congrArg some hb31) ?_
     refine sq_skip (congrArg some hb31) ?_
     refine sq_skip (congrArg some hb31) ?_
     refine sq_skip (congrArg some hb31) ?_
     refine sq_skip (congrArg some hb31) ?_
     refine sq_skip (congrArg some hb31) ?_
     refine sq_skip (congrArg some hb31) ?_
     refine sq_end ?_
     intro σ52 hm53
     replace H := H.grow (hm53.mono fun _ h => h); clear hm53
     refine st_skip (congrArg some hb31) ?_
     refine st_skip (congrArg some hb31) ?_
     refine st (v := (B false)) (rv_pick_f (congrArg B hb31) rfl) ?_
     refine w_end ?_
     obtain rfl := Option.some.inj h
     exact ⟨rfl, _, σ52, fr_join ⟨rfl, rfl, rfl, rfl, rfl, rfl, trivial⟩, rfl, H.sel' [0] rfl rfl⟩
   ·clear hj
    have h := h'
    clear h' H
    rintro e a w ⟨rfl, ρ, σ54, rfl, rfl, H⟩
    refine q_then ?_
    refine cd_cond o30 rfl (fun hb55 => ?_) (fun hb55 => ?_)
    ·replace h := bif_t hb55 h
     refine c_skip ?_
     refine q_then ?_
     refine c_blk ?_
     refine rg ?_
     refine st (v := (I s28)) (rv_move rfl) ?_
     refine st (v := (I (w64 (s28 + 1)))) (rv_add (a := s28) (b := 1) rfl rfl) ?_
     refine st (v := (I (w64 (s28 + 1)))) (rv_assign rfl) ?_
     refine w_end ?_
     refine q_blk ?_
     refine q_then ?_
     obtain rfl := Option.some.inj h
     exact ⟨_, rfl, _, σ54, fr_join ⟨rfl, rfl, rfl, rfl, rfl, trivial⟩, rfl, H.sel' [0] rfl rfl⟩
    ·replace h := bif_f hb55 h
     refine c_exit ?_
     refine q_then_x ?_
     refine q_then_x ?_
     refine q_blk_hit ?_
     obtain rfl := Option.some.inj h
     obtain rfl := hres _ rfl
     exact ⟨rfl, _, σ54, fr_join ⟨rfl, rfl, rfl, rfl, rfl, trivial⟩, rfl, H.sel' [0] rfl rfl⟩
  ·clear hj
   have h := h'
   clear h' H
   rintro e a w ⟨rfl, ρ, σ56, rfl, rfl, H⟩
   refine q_then ?_
   refine c_seq ?_
   obtain ⟨o57, hj, h'⟩ := bind_some h
   clear h
   refine c_cut (fun e a w => e = .normal ∧ ∃ (ρ : Nat → Value) (σ : St), a = fr 178 (updL ρ [(0, (Sl adata_0 ((data_0.set a_1.toNat (x1.1, x1.2)).set pivot_3.toNat (x8.1, x8.2)) cdata_0)), (1, (I a_1)), (4, (.func (.func 89) #[] #[])), (12, (I o27)), (13, (I o57))]) ∧ w = σ.w ∧ Hp S0 σ0 σ [Ch.own 0 0 (Sl adata_0 ((data_0.set a_1.toNat (x1.1, x1.2)).set pivot_3.toNat (x8.1, x8.2)) cdata_0) ((data_0.set a_1.toNat (x1.1, x1.2)).set pivot_3.toNat (x8.1, x8.2))]) ?_ ?_
   ·clear h'
    rename _ = some o57 => h
    refine c_blk ?_
    refine wp_loopM _ h (fun s58 a w => ∃ (ρ : Nat → Value) (σ : St), a = fr 178 (updL ρ [(0, (Sl adata_0 ((data_0.set a_1.toNat (x1.1, x1.2)).set pivot_3.toNat (x8.1, x8.2)) cdata_0)), (1, (I a_1)), (4, (.func (.func 89) #[] #[])), (12, (I o27)), (13, (I s58))]) ∧ w = σ.w ∧ Hp S0 σ0 σ [Ch.own 0 0 (Sl adata_0 ((data_0.set a_1.toNat (x1.1, x1.2)).set pivot_3.toNat (x8.1, x8.2)) cdata_0) ((data_0.set a_1.toNat (x1.1, x1.2)).set pivot_3.toNat (x8.1, x8.2))]) ⟨_, σ56, fr_join ⟨rfl, rfl, rfl, rfl, rfl, trivial⟩, rfl, H.sel' [0] rfl rfl⟩ ?_
    clear h H
    rintro s58 a w o ⟨ρ, σ59, rfl, rfl, H⟩ h hres
    refine c_seq ?_
    refine c_seq ?_
    obtain ⟨o60, hj, h'⟩ := bind_some h
    clear h
    refine c_cut (fun e a w => e = .normal ∧ ∃ (ρ : Nat → Value) (σ : St), a = fr 178 (updL ρ [(0, (Sl adata_0 ((data_0.set a_1.toNat (x1.1, x1.2)).set pivot_3.toNat (x8.1, x8.2)) cdata_0)), (1, (I a_1)), (4, (.func (.func 89) #[] #[])), (12, (I o27)), (13, (I s58)), (66, (B o60))]) ∧ w = σ.w ∧ Hp S0 σ0 σ [Ch.own 0 0 (Sl adata_0 ((data_0.set a_1.toNat (x1.1, x1.2)).set pivot_3.toNat (x8.1, x8.2)) cdata_0) ((data_0.set a_1.toNat (x1.1, x1.2)).set pivot_3.toNat (x8.1, x8.2))]) ?_ ?_
    ·clear h'
     rename _ = some o60 => h
     refine rgP (σ := σ59) 13 (by kernel_rfl) (by kernel_rfl) (by kernel_rfl) ?_
     refine sq (v := (I o27)) (rv_move rfl) ?_
     refine sq (v := (I s58)) (rv_move rfl) ?_
     refine sq (v := (B (decide (o27 ≤ s58)))) (rv_leq (a := o27) (b := s58) rfl rfl) ?_
     refine sq (v := (B (decide (o27 ≤ s58)))) (rv_move rfl) ?_
     rcases Bool.eq_false_or_eq_true (decide (o27 ≤ s58)) with hb61 | hb61
     ·replace h := bif_t hb61 h
      refine sq_g (v := (.func (.func 89) #[] #[])) (congrArg some hb61) (rv_move rfl) ?_
      refine sq_g (v := (Sl adata_0 ((data_0.set a_1.toNat (x1.1, x1.2)).set pivot_3.toNat (x8.1, x8.2)) cdata_0)) (congrArg some hb61) (rv_move rfl) ?_
      refine sq_g (v := (I s58)) (congrArg some hb61) (rv_move rfl) ?_
      obtain ⟨x62, hx63, h'⟩ := bind_some h
      clear h
      have h := h'; clear h'
      obtain ⟨b65, o66, hi64, -⟩ := (H.own 0 rfl).ix hx63
      refine sq_g (v := (pt b65 o66)) (congrArg some hb61) (rv_ix Try.underlying27 ti33 rfl rfl hi64) ?_
      obtain ⟨_, ⟨_, _, rfl, rfl, rfl⟩, hl67, hc68⟩ := ((H.own 0 rfl).at hx63 hi64).cells
      refine sq_g (v := (.agg #[(I x62.1), (I x62.2)])) (congrArg some hb61) (rv_load Try.underlying33 rfl ti33 rfl hl67 hc68) ?_
      refine sq_g (v := (Sl adata_0 ((data_0.set a_1.toNat (x1.1, x1.2)).set pivot_3.toNat (x8.1, x8.2)) cdata_0)) (congrArg some hb61) (rv_move rfl) ?_
      refine sq_g (v := (I a_1)) (congrArg some hb61) (rv_move rfl) ?_
      obtain ⟨x69, hx70, h'⟩ := bind_some h
      clear h
      have h := h'; clear h'
      obtain ⟨b72, o73, hi71, -⟩ := (H.own 0 rfl).ix hx70
      refine sq_g (v := (pt b72 o73)) (congrArg some hb61) (rv_ix Try.underlying27 ti33 rfl rfl hi71) ?_
      obtain ⟨_, ⟨_, _, rfl, rfl, rfl⟩, hl74, hc75⟩ := ((H.own 0 rfl).at hx70 hi71).cells
      refine sq_g (v := (.agg #[(I x69.1), (I x69.2)])) (congrArg some hb61) (rv_load Try.underlying33 rfl ti33 rfl hl74 hc75) ?_
      refine sq_end ?_
      intro σ76 hm77
      replace H := H.grow (hm77.mono fun _ h => h); clear hm77
      obtain ⟨r78, hx79, h'⟩ := bind_some h
      clear h
      have h := h'; clear h'
      have hc80 := c_impl_compareHits hx79
      refine st_call (cx_call hc80 (ent_v (cap := []) hc80.fn rfl rfl) hn0 (show Hp S0 σ0 _ ([] ++ [Ch.own 0 0 (Sl adata_0 ((data_0.set a_1.toNat (x1.1, x1.2)).set pivot_3.toNat (x8.1, x8.2)) cdata_0) ((data_0.set a_1.toNat (x1.1, x1.2)).set pivot_3.toNat (x8.1, x8.2))]) from (H.sel' [0] rfl rfl))) (wanted_yes rfl (by exact (congrArg some hb61))) ?_
      rintro _ σ81 ⟨_, ⟨rfl, rfl⟩, H, -⟩
      replace H : Hp S0 σ0 σ81 [Ch.own 0 0 (Sl adata_0 ((data_0.set a_1.toNat (x1.1, x1.2)).set pivot_3.toNat (x8.1, x8.2)) cdata_0) ((data_0.set a_1.toNat (x1.1, x1.2)).set pivot_3.toNat (x8.1, x8.2))] := H
      refine st_g (v := (B (decide (r78 < 0)))) (congrArg some hb61) (rv_lss (a := r78) (b := 0) rfl rfl) ?_
      refine st_g (v := (B (!(decide (r78 < 0))))) (congrArg some hb61) (rv_not rfl) ?_
      refine st (v := (B (!(decide (r78 < 0))))) (rv_pick_t (congrArg B hb61) rfl) ?_
      refine w_end ?_
      obtain rfl := Option.some.inj h
      exact ⟨rfl, _, σ81, fr_join ⟨rfl, rfl, rfl, rfl, rfl, rfl, trivial⟩, rfl, H.sel' [0] rfl rfl⟩
     ·replace h := bif_f hb61 h
      refine sq_skip (congrArg some hb61) ?_
      refine sq_skip (congrArg some hb61) ?_
      refine sq_skip (congrArg some hb61) ?_
      refine sq_skip (congrArg some hb61) ?_
      refine sq_skip (congrArg some hb61) ?_
      refine sq_skip (congrArg some hb61) ?_
      refine sq_skip (congrArg some hb61) ?_
      refine sq_skip (congrArg some hb61) ?_
      refine sq_skip (congrArg some hb61) ?_
      refine sq_end ?_
      intro σ82 hm83
      replace H := H.grow (hm83.mono fun _ h => h); clear hm83
      refine st_skip (congrArg some hb61) ?_
      refine st_skip (congrArg some hb61) ?_
      refine st_skip (congrArg some hb61) ?_
      refine st (v := (B false)) (rv_pick_f (congrArg B hb61) rfl) ?_
      refine w_end ?_
      obtain rfl := Option.some.inj h
      exact ⟨rfl, _, σ82, fr_join ⟨rfl, rfl, rfl, rfl, rfl, rfl, trivial⟩, rfl, H.sel' [0] rfl rfl⟩
    ·clear hj
     have h := h'
     clear h' H
     rintro e a w ⟨rfl, ρ, σ84, rfl, rfl, H⟩
     refine q_then ?_
     refine cd_cond o60 rfl (fun hb85 => ?_) (fun hb85 => ?_)
     ·replace h := bif_t hb85 h
      refine c_skip ?_
      refine q_then ?_
      refine c_blk ?_
      refine rg ?_
      refine st (v := (I s58)) (rv_move rfl) ?_
      refine st (v := (I (w64 (s58 - 1)))) (rv_sub (a := s58) (b := 1) rfl rfl) ?_
      refine st (v := (I (w64 (s58 - 1)))) (rv_assign rfl) ?_
      refine w_end ?_
      refine q_blk ?_
      refine q_then ?_
      obtain rfl := Option.some.inj h
      exact ⟨_, rfl, _, σ84, fr_join ⟨rfl, rfl, rfl, rfl, rfl, trivial⟩, rfl, H.sel' [0] rfl rfl⟩
     ·replace h := bif_f hb85 h
      refine c_exit ?_
      refine q_then_x ?_
      refine q_then_x ?_
      refine q_blk_hit ?_
      obtain rfl := Option.some.inj h
      obtain rfl := hres _ rfl
      exact ⟨rfl, _, σ84, fr_join ⟨rfl, rfl, rfl, rfl, rfl, trivial⟩, rfl, H.sel' [0] rfl rfl⟩
   ·clear hj
    have h := h'
    clear h' H
    rintro e a w ⟨rfl, ρ, σ86, rfl, rfl, H⟩
    refine q_then ?_
    refine c_seq ?_
    refine c_seq ?_
    refine rg ?_
    refine st (v := (I o27)) (rv_move rfl) ?_
    refine st (v := (I o57)) (rv_move rfl) ?_
    refine st (v := (B (decide (o57 < o27)))) (rv_gtr (a := o27) (b := o57) rfl rfl) ?_
    refine w_end ?_
    refine q_then ?_
    refine cd_cond (decide (o57 < o27)) rfl (fun hb87 => ?_) (fun hb87 => ?_)
    ·replace h := bif_t hb87 h
     refine c_seq ?_
     obtain ⟨x88, hx89, h'⟩ := bind_some h
     clear h
     have h := h'; clear h'
     obtain ⟨b91, o92, hi90, -⟩ := (H.own 0 rfl).ix hx89
     obtain ⟨_, ⟨_, _, rfl, rfl, rfl⟩, hl93, hc94⟩ := ((H.own 0 rfl).at hx89 hi90).cells
     obtain ⟨x95, hx96, h'⟩ := bind_some h
     clear h
     have h := h'; clear h'
     obtain ⟨b98, o99, hi97, -⟩ := (H.own 0 rfl).ix hx96
     obtain ⟨_, ⟨_, _, rfl, rfl, rfl⟩, hl100, hc101⟩ := ((H.own 0 rfl).at hx96 hi97).cells
     obtain ⟨x102, hx103, h'⟩ := bind_some h
     clear h
     have h := h'; clear h'
     obtain ⟨b105, o106, hi104, -⟩ := (H.own 0 rfl).ix hx103
     have Hs := H
     refine rg2 (σ := σ86) (Nm := Unit) 14 [13] [[false], [true]] [[(0, 0)], [(0, 0)], [(0, 0), (1, 1)], [(0, 0), (1, 1)], [(0, 0)], [(0, 0)], [(0, 0)], [(0, 0)], [(0, 0)], [(0, 0)], [(0, 0)], [(0, 0)], [(0, 0)], [(0, 1)]] 1 [fun (_nm : Unit) => fun σm => Hp S0 σ0 σm [Ch.own 0 0 (Sl adata_0 ((data_0.set a_1.toNat (x1.1, x1.2)).set pivot_3.toNat (x8.1, x8.2)) cdata_0) ((data_0.set a_1.toNat (x1.1, x1.2)).set pivot_3.toNat (x8.1, x8.2))] ∧ Md (cov []) σ86 σm, fun (_nm : Unit) => fun σm => Hp S0 σ0 σm [Ch.own 0 0 (Sl adata_0 ((data_0.set a_1.toNat (x1.1, x1.2)).set pivot_3.toNat (x8.1, x8.2)) cdata_0) (((data_0.set a_1.toNat (x1.1, x1.2)).set pivot_3.toNat (x8.1, x8.2)).set o57.toNat (x88.1, x88.2))] ∧ Md (fun i => (cov []) i ∨ (fun b => blk (Sl adata_0 ((data_0.set a_1.toNat (x1.1, x1.2)).set pivot_3.toNat (x8.1, x8.2)) cdata_0) = some b) i) σ86 σm] [fun (_nm : Unit) => (Sl adata_0 ((data_0.set a_1.toNat (x1.1, x1.2)).set pivot_3.toNat (x8.1, x8.2)) cdata_0), fun (_nm : Unit) => (I o57), fun (_nm : Unit) => (Sl adata_0 ((data_0.set a_1.toNat (x1.1, x1.2)).set pivot_3.toNat (x8.1, x8.2)) cdata_0), fun (_nm : Unit) => (I a_1), fun (_nm : Unit) => (Sl adata_0 ((data_0.set a_1.toNat (x1.1, x1.2)).set pivot_3.toNat (x8.1, x8.2)) cdata_0), fun (_nm : Unit) => (I a_1), fun (_nm : Unit) => (pt b91 o92), fun (_nm : Unit) => (.agg #[(I x88.1), (I x88.2)]), fun (_nm : Unit) => (Sl adata_0 ((data_0.set a_1.toNat (x1.1, x1.2)).set pivot_3.toNat (x8.1, x8.2)) cdata_0), fun (_nm : Unit) => (I o57), fun (_nm : Unit) => (pt b98 o99), fun (_nm : Unit) => (.agg #[(I x95.1), (I x95.2)]), fun (_nm : Unit) => (pt b105 o106), fun (_nm : Unit) => undef] () (by kernel_rfl) (by kernel_rfl) ?_ ?_ ?_
     ·intro σm m0
      exact ⟨H.grow (m0.mono fun _ h => h.elim), m0⟩
     ·refine all_cons (obs_v rfl (by
        intro k; intro _nm ρ σm hJ hoff hdep
        have e0 : look 178 ρ 0 = (Sl adata_0 ((data_0.set a_1.toNat (x1.1, x1.2)).set pivot_3.toNat (x8.1, x8.2)) cdata_0) := look_off (hoff 0 rfl) rfl
        exact dp_v (v := (Sl adata_0 ((data_0.set a_1.toNat (x1.1, x1.2)).set pivot_3.toNat (x8.1, x8.2)) cdata_0)) (wanted_none _ rfl _) (rv_move e0) rfl hJ)) ?_
      refine all_cons (obs_v rfl (by
        intro k; intro _nm ρ σm hJ hoff hdep
        have e13 : look 178 ρ 13 = (I o57) := look_off (hoff 13 rfl) rfl
        exact dp_v (v := (I o57)) (wanted_none _ rfl _) (rv_move e13) rfl hJ)) ?_
      refine all_cons (obs_v rfl (by
        intro k; intro _nm ρ σm hJ hoff hdep
        have e0 : look 178 ρ 0 = (Sl adata_0 ((data_0.set a_1.toNat (x1.1, x1.2)).set pivot_3.toNat (x8.1, x8.2)) cdata_0) := look_off (hoff 0 rfl) rfl
        exact dp_v (v := (Sl adata_0 ((data_0.set a_1.toNat (x1.1, x1.2)).set pivot_3.toNat (x8.1, x8.2)) cdata_0)) (wanted_none _ rfl _) (rv_move e0) rfl hJ)) ?_
      refine all_cons (obs_v rfl (by
        intro k; intro _nm ρ σm hJ hoff hdep
        have e1 : look 178 ρ 1 = (I a_1) := look_off (hoff 1 rfl) rfl
        exact dp_v (v := (I a_1)) (wanted_none _ rfl _) (rv_move e1) rfl hJ)) ?_
      refine all_cons (obs_v rfl (by
        intro k; intro _nm ρ σm hJ hoff hdep
        have e0 : look 178 ρ 0 = (Sl adata_0 ((data_0.set a_1.toNat (x1.1, x1.2)).set pivot_3.toNat (x8.1, x8.2)) cdata_0) := look_off (hoff 0 rfl) rfl
        exact dp_v (v := (Sl adata_0 ((data_0.set a_1.toNat (x1.1, x1.2)).set pivot_3.toNat (x8.1, x8.2)) cdata_0)) (wanted_none _ rfl _) (rv_move e0) rfl hJ)) ?_
      refine all_cons (obs_v rfl (by
        intro k; intro _nm ρ σm hJ hoff hdep
        have e1 : look 178 ρ 1 = (I a_1) := look_off (hoff 1 rfl) rfl
        exact dp_v (v := (I a_1)) (wanted_none _ rfl _) (rv_move e1) rfl hJ)) ?_
      refine all_cons (obs_v rfl (by
        intro k; intro _nm ρ σm hJ hoff hdep
        have e76 : look 178 ρ 76 = (Sl adata_0 ((data_0.set a_1.toNat (x1.1, x1.2)).set pivot_3.toNat (x8.1, x8.2)) cdata_0) := hdep 4 rfl rfl 76 rfl
        have e77 : look 178 ρ 77 = (I a_1) := hdep 5 rfl rfl 77 rfl
        exact dp_v (v := (pt b91 o92)) (wanted_none _ rfl _) (rv_ix Try.underlying27 ti33 e76 e77 hi90) rfl hJ)) ?_
      refine all_cons (by
        refine ⟨?_, ?_⟩
        ·intro _nm ρ σm hJ hoff hdep
         have e78 : look 178 ρ 78 = (pt b91 o92) := hdep 6 rfl rfl 78 rfl
         obtain ⟨H, m⟩ := id hJ
         obtain ⟨_, ⟨_, _, rfl, rfl, rfl⟩, hl93, hc94⟩ := ((H.own 0 rfl).at hx89 hi90).cells
         exact dp_v (v := (.agg #[(I x88.1), (I x88.2)])) (wanted_none _ rfl _) (rv_load Try.underlying33 rfl ti33 e78 hl93 hc94) rfl hJ
        trivial) ?_
      refine all_cons (obs_v rfl (by
        intro k; intro _nm ρ σm hJ hoff hdep
        have e0 : look 178 ρ 0 = (Sl adata_0 ((data_0.set a_1.toNat (x1.1, x1.2)).set pivot_3.toNat (x8.1, x8.2)) cdata_0) := look_off (hoff 0 rfl) rfl
        exact dp_v (v := (Sl adata_0 ((data_0.set a_1.toNat (x1.1, x1.2)).set pivot_3.toNat (x8.1, x8.2)) cdata_0)) (wanted_none _ rfl _) (rv_move e0) rfl hJ)) ?_
      refine all_cons (obs_v rfl (by
        intro k; intro _nm ρ σm hJ hoff hdep
        have e13 : look 178 ρ 13 = (I o57) := look_off (hoff 13 rfl) rfl
        exact dp_v (v := (I o57)) (wanted_none _ rfl _) (rv_move e13) rfl hJ)) ?_
      refine all_cons (obs_v rfl (by
        intro k; intro _nm ρ σm hJ hoff hdep
        have e80 : look 178 ρ 80 = (Sl adata_0 ((data_0.set a_1.toNat (x1.1, x1.2)).set pivot_3.toNat (x8.1, x8.2)) cdata_0) := hdep 8 rfl rfl 80 rfl
        have e81 : look 178 ρ 81 = (I o57) := hdep 9 rfl rfl 81 rfl
        exact dp_v (v := (pt b98 o99)) (wanted_none _ rfl _) (rv_ix Try.underlying27 ti33 e80 e81 hi97) rfl hJ)) ?_
      refine all_cons (by
        refine ⟨?_, ?_⟩
        ·intro _nm ρ σm hJ hoff hdep
         have e82 : look 178 ρ 82 = (pt b98 o99) := hdep 10 rfl rfl 82 rfl
         obtain ⟨H, m⟩ := id hJ
         obtain ⟨_, ⟨_, _, rfl, rfl, rfl⟩, hl100, hc101⟩ := ((H.own 0 rfl).at hx96 hi97).cells
         exact dp_v (v := (.agg #[(I x95.1), (I x95.2)])) (wanted_none _ rfl _) (rv_load Try.underlying33 rfl ti33 e82 hl100 hc101) rfl hJ
        trivial) ?_
      refine all_cons (obs_v rfl (by
        intro k; intro _nm ρ σm hJ hoff hdep
        have e72 : look 178 ρ 72 = (Sl adata_0 ((data_0.set a_1.toNat (x1.1, x1.2)).set pivot_3.toNat (x8.1, x8.2)) cdata_0) := hdep 0 rfl rfl 72 rfl
        have e73 : look 178 ρ 73 = (I o57) := hdep 1 rfl rfl 73 rfl
        exact dp_v (v := (pt b105 o106)) (wanted_none _ rfl _) (rv_ix Try.underlying27 ti33 e72 e73 hi104) rfl hJ)) ?_
      refine all_cons (by
        refine ⟨?_, ?_⟩
        ·intro _nm ρ σm hJ hoff hdep
         have e84 : look 178 ρ 84 = (pt b105 o106) := hdep 12 rfl rfl 84 rfl
         have e79 : look 178 ρ 79 = (.agg #[(I x88.1), (I x88.2)]) := hdep 7 rfl rfl 79 rfl
         obtain ⟨H, m⟩ := id hJ
         refine dp_exS (wanted_none _ rfl _) rfl (ex_store_own (e' := (x88.1, x88.2)) (vs := [(I x88.1), (I x88.2)]) (k := 0) H (i := 0) rfl ti33 hx103 hi104 e84 rfl e79 rfl rfl (Nat.le_of_ble_eq_true rfl) (by simp [plain]) (by rintro _ ⟨_, _, rfl, rfl, rfl⟩; exact ⟨[(I x88.1)], [(I x88.2)], rfl, rfl, rfl⟩)) ?_
         rintro σq ⟨H2, m2⟩
         exact ⟨_, (), rfl, ⟨H2.sel' [0] rfl rfl, m.comp m2⟩, stab [0, 1, 2, 3, 4, 5, 6, 7, 8, 9, 10, 11, 12] (by kernel_rfl) ⟨rfl, rfl, rfl, rfl, rfl, rfl, rfl, rfl, rfl, rfl, rfl, rfl, rfl, trivial⟩⟩
        trivial) ?_
      exact all_nil
     ·intro _nm ρ σ107 hJ hoff hrel
      have e0 : look 178 ρ 0 = (Sl adata_0 ((data_0.set a_1.toNat (x1.1, x1.2)).set pivot_3.toNat (x8.1, x8.2)) cdata_0) := look_off (hoff 0 rfl) rfl
      have e13 : look 178 ρ 13 = (I o57) := look_off (hoff 13 rfl) rfl
      have e74 : look 178 ρ 74 = (Sl adata_0 ((data_0.set a_1.toNat (x1.1, x1.2)).set pivot_3.toNat (x8.1, x8.2)) cdata_0) := hrel 2 rfl 74 rfl
      have e75 : look 178 ρ 75 = (I a_1) := hrel 3 rfl 75 rfl
      have e83 : look 178 ρ 83 = (.agg #[(I x95.1), (I x95.2)]) := hrel 11 rfl 83 rfl
      obtain ⟨H, -⟩ := (show Hp S0 σ0 σ107 [Ch.own 0 0 (Sl adata_0 ((data_0.set a_1.toNat (x1.1, x1.2)).set pivot_3.toNat (x8.1, x8.2)) cdata_0) (((data_0.set a_1.toNat (x1.1, x1.2)).set pivot_3.toNat (x8.1, x8.2)).set o57.toNat (x88.1, x88.2))] ∧ Md (fun i => (cov []) i ∨ (fun b => blk (Sl adata_0 ((data_0.set a_1.toNat (x1.1, x1.2)).set pivot_3.toNat (x8.1, x8.2)) cdata_0) = some b) i) σ86 σ107 from hJ)
      clear hJ Hs
      rw [fr_lookL (L := [(0, (Sl adata_0 ((data_0.set a_1.toNat (x1.1, x1.2)).set pivot_3.toNat (x8.1, x8.2)) cdata_0)), (13, (I o57)), (74, (Sl adata_0 ((data_0.set a_1.toNat (x1.1, x1.2)).set pivot_3.toNat (x8.1, x8.2)) cdata_0)), (75, (I a_1)), (83, (.agg #[(I x95.1), (I x95.2)]))]) ⟨e0, e13, e74, e75, e83, trivial⟩]
      clear hoff hrel e0 e13 e74 e75 e83
      have hsl : (Sl adata_0 ((data_0.set a_1.toNat (x1.1, x1.2)).set pivot_3.toNat (x8.1, x8.2)) cdata_0) = (Sl adata_0 (((data_0.set a_1.toNat (x1.1, x1.2)).set pivot_3.toNat (x8.1, x8.2)).set o57.toNat (x88.1, x88.2)) cdata_0) := sl_len (by simp)
      rw [hsl]; rw [hsl] at H; clear hsl
      obtain ⟨x108, hx109, h'⟩ := bind_some h
      clear h
      have h := h'; clear h'
      obtain ⟨b111, o112, hi110, -⟩ := (H.own 0 rfl).ix hx109
      refine st (v := (pt b111 o112)) (rv_ix Try.underlying27 ti33 rfl rfl hi110) ?_
      refine st_exS (ex_store_own (e' := (x95.1, x95.2)) (vs := [(I x95.1), (I x95.2)]) (k := 0) H (i := 0) rfl ti33 hx109 hi110 rfl rfl rfl rfl rfl (Nat.le_of_ble_eq_true rfl) (by simp [plain]) (by rintro _ ⟨_, _, rfl, rfl, rfl⟩; exact ⟨[(I x95.1)], [(I x95.2)], rfl, rfl, rfl⟩)) (wanted_none _ rfl _) ?_
      rintro σ113 ⟨H, -⟩
      have hsl : (Sl adata_0 (((data_0.set a_1.toNat (x1.1, x1.2)).set pivot_3.toNat (x8.1, x8.2)).set o57.toNat (x88.1, x88.2)) cdata_0) = (Sl adata_0 ((((data_0.set a_1.toNat (x1.1, x1.2)).set pivot_3.toNat (x8.1, x8.2)).set o57.toNat (x88.1, x88.2)).set a_1.toNat (x95.1, x95.2)) cdata_0) := sl_len List.length_set.symm
      rw [hsl]; rw [hsl] at H; clear hsl
      refine w_end ?_
      refine q_then ?_
      refine c_seq ?_
      refine rg ?_
      refine st (v := (I o57)) (rv_move rfl) ?_
      refine st (v := (I o57)) (rv_assign rfl) ?_
      refine st (v := (B true)) (rv_assign rfl) ?_
      refine w_end ?_
      refine q_then ?_
      refine c_ret ?_
      refine q_then_r ?_
      obtain rfl := Option.some.inj h
      exact fin_ret (v := (.tuple #[(I o57), (B true)])) (results_ok Try.results141 (res_tmp (v := (I o57)) rfl (res_tmp (v := (B true)) rfl res_nil)) rfl) ⟨rfl, rfl, (List.length_set.trans (List.length_set.trans (List.length_set.trans List.length_set)))⟩ (H.sel' [0] rfl rfl)
    ·replace h := bif_f hb87 h
     refine c_skip ?_
     refine q_then ?_
     refine c_seq ?_
     obtain ⟨x114, hx115, h'⟩ := bind_some h
     clear h
     have h := h'; clear h'
     obtain ⟨b117, o118, hi116, -⟩ := (H.own 0 rfl).ix hx115
     obtain ⟨_, ⟨_, _, rfl, rfl, rfl⟩, hl119, hc120⟩ := ((H.own 0 rfl).at hx115 hi116).cells
     obtain ⟨x121, hx122, h'⟩ := bind_some h
     clear h
     have h := h'; clear h'
     obtain ⟨b124, o125, hi123, -⟩ := (H.own 0 rfl).ix hx122
     obtain ⟨_, ⟨_, _, rfl, rfl, rfl⟩, hl126, hc127⟩ := ((H.own 0 rfl).at hx122 hi123).cells
     obtain ⟨x128, hx129, h'⟩ := bind_some h
     clear h
     have h := h'; clear h'
     obtain ⟨b131, o132, hi130, -⟩ := (H.own 0 rfl).ix hx129
     have Hs := H
     refine rg2 (σ := σ86) (Nm := Unit) 14 [13] [[false], [true]] [[(0, 0)], [(0, 0)], [(0, 0), (1, 1)], [(0, 0), (1, 1)], [(0, 0)], [(0, 0)], [(0, 0)], [(0, 0)], [(0, 0)], [(0, 0)], [(0, 0)], [(0, 0)], [(0, 0)], [(0, 1)]] 1 [fun (_nm : Unit) => fun σm => Hp S0 σ0 σm [Ch.own 0 0 (Sl adata_0 ((data_0.set a_1.toNat (x1.1, x1.2)).set pivot_3.toNat (x8.1, x8.2)) cdata_0) ((data_0.set a_1.toNat (x1.1, x1.2)).set pivot_3.toNat (x8.1, x8.2))] ∧ Md (cov []) σ86 σm, fun (_nm : Unit) => fun σm => Hp S0 σ0 σm [Ch.own 0 0 (Sl adata_0 ((data_0.set a_1.toNat (x1.1, x1.2)).set pivot_3.toNat (x8.1, x8.2)) cdata_0) (((data_0.set a_1.toNat (x1.1, x1.2)).set pivot_3.toNat (x8.1, x8.2)).set o27.toNat (x114.1, x114.2))] ∧ Md (fun i => (cov []) i ∨ (fun b => blk (Sl adata_0 ((data_0.set a_1.toNat (x1.1, x1.2)).set pivot_3.toNat (x8.1, x8.2)) cdata_0) = some b) i) σ86 σm] [fun (_nm : Unit) => (Sl adata_0 ((data_0.set a_1.toNat (x1.1, x1.2)).set pivot_3.toNat (x8.1, x8.2)) cdata_0), fun (_nm : Unit) => (I o27), fun (_nm : Unit) => (Sl adata_0 ((data_0.set a_1.toNat (x1.1, x1.2)).set pivot_3.toNat (x8.1, x8.2)) cdata_0), fun (_nm : Unit) => (I o57), fun (_nm : Unit) => (Sl adata_0 ((data_0.set a_1.toNat (x1.1, x1.2)).set pivot_3.toNat (x8.1, x8.2)) cdata_0), fun (_nm : Unit) => (I o57), fun (_nm : Unit) => (pt b117 o118), fun (_nm : Unit) => (.agg #[(I x114.1), (I x114.2)]), fun (_nm : Unit) => (Sl adata_0 ((data_0.set a_1.toNat (x1.1, x1.2)).set pivot_3.toNat (x8.1, x8.2)) cdata_0), fun (_nm : Unit) => (I o27), fun (_nm : Unit) => (pt b124 o125), fun (_nm : Unit) => (.agg #[(I x121.1), (I x121.2)]), fun (_nm : Unit) => (pt b131 o132), fun (_nm : Unit) => undef] () (by kernel_rfl) (by kernel_rfl) ?_ ?_ ?_
     ·intro σm m0
      exact ⟨H.grow (m0.mono fun _ h => h.elim), m0⟩
     ·refine all_cons (obs_v rfl (by
        intro k; intro _nm ρ σm hJ hoff hdep
        have e0 : look 178 ρ 0 = (Sl adata_0 ((data_0.set a_1.toNat (x1.1, x1.2)).set pivot_3.toNat (x8.1, x8.2)) cdata_0) := look_off (hoff 0 rfl) rfl
        exact dp_v (v := (Sl adata_0 ((data_0.set a_1.toNat (x1.1, x1.2)).set pivot_3.toNat (x8.1, x8.2)) cdata_0)) (wanted_none _ rfl _) (rv_move e0) rfl hJ)) ?_
      refine all_cons (obs_v rfl (by
        intro k; intro _nm ρ σm hJ hoff hdep
        have e12 : look 178 ρ 12 = (I o27) := look_off (hoff 12 rfl) rfl
        exact dp_v (v := (I o27)) (wanted_none _ rfl _) (rv_move e12) rfl hJ)) ?_
      refine all_cons (obs_v rfl (by
        intro k; intro _nm ρ σm hJ hoff hdep
        have e0 : look 178 ρ 0 = (Sl adata_0 ((data_0.set a_1.toNat (x1.1, x1.2)).set pivot_3.toNat (x8.1, x8.2)) cdata_0) := look_off (hoff 0 rfl) rfl
        exact dp_v (v := (Sl adata_0 ((data_0.set a_1.toNat (x1.1, x1.2)).set pivot_3.toNat (x8.1, x8.2)) cdata_0)) (wanted_none _ rfl _) (rv_move e0) rfl hJ)) ?_
      refine all_cons (obs_v rfl (by
        intro k; intro _nm ρ σm hJ hoff hdep
        have e13 : look 178 ρ 13 = (I o57) := look_off (hoff 13 rfl) rfl
        exact dp_v (v := (I o57)) (wanted_none _ rfl _) (rv_move e13) rfl hJ)) ?_
      refine all_cons (obs_v rfl (by
        intro k; intro _nm ρ σm hJ hoff hdep
        have e0 : look 178 ρ 0 = (Sl adata_0 ((data_0.set a_1.toNat (x1.1, x1.2)).set pivot_3.toNat (x8.1, x8.2)) cdata_0) := look_off (hoff 0 rfl) rfl
        exact dp_v (v := (Sl adata_0 ((data_0.set a_1.toNat (x1.1, x1.2)).set pivot_3.toNat (x8.1, x8.2)) cdata_0)) (wanted_none _ rfl _) (rv_move e0) rfl hJ)) ?_
      refine all_cons (obs_v rfl (by
        intro k; intro _nm ρ σm hJ hoff hdep
        have e13 : look 178 ρ 13 = (I o57) := look_off (hoff 13 rfl) rfl
        exact dp_v (v := (I o57)) (wanted_none _ rfl _) (rv_move e13) rfl hJ)) ?_
      refine all_cons (obs_v rfl (by
        intro k; intro _nm ρ σm hJ hoff hdep
        have e91 : look 178 ρ 91 = (Sl adata_0 ((data_0.set a_1.toNat (x1.1, x1.2)).set pivot_3.toNat (x8.1, x8.2)) cdata_0) := hdep 4 rfl rfl 91 rfl
        have e92 : look 178 ρ 92 = (I o57) := hdep 5 rfl rfl 92 rfl
        exact dp_v (v := (pt b117 o118)) (wanted_none _ rfl _) (rv_ix Try.underlying27 ti33 e91 e92 hi116) rfl hJ)) ?_
      refine all_cons (by
        refine ⟨?_, ?_⟩
        ·intro _nm ρ σm hJ hoff hdep
         have e93 : look 178 ρ 93 = (pt b117 o118) := hdep 6 rfl rfl 93 rfl
         obtain ⟨H, m⟩ := id hJ
         obtain ⟨_, ⟨_, _, rfl, rfl, rfl⟩, hl119, hc120⟩ := ((H.own 0 rfl).at hx115 hi116).cells
         exact dp_v (v := (.agg #[(I x114.1), (I x114.2)])) (wanted_none _ rfl _) (rv_load Try.underlying33 rfl ti33 e93 hl119 hc120) rfl hJ
        trivial) ?_
      refine all_cons (obs_v rfl (by
        intro k; intro _nm ρ σm hJ hoff hdep
        have e0 : look 178 ρ 0 = (Sl adata_0 ((data_0.set a_1.toNat (x1.1, x1.2)).set pivot_3.toNat (x8.1, x8.2)) cdata_0) := look_off (hoff 0 rfl) rfl
        exact dp_v (v := (Sl adata_0 ((data_0.set a_1.toNat (x1.1, x1.2)).set pivot_3.toNat (x8.1, x8.2)) cdata_0)) (wanted_none _ rfl _) (rv_move e0) rfl hJ)) ?_
      refine all_cons (obs_v rfl (by
        intro k; intro _nm ρ σm hJ hoff hdep
        have e12 : look 178 ρ 12 = (I o27) := look_off (hoff 12 rfl) rfl
        exact dp_v (v := (I o27)) (wanted_none _ rfl _) (rv_move e12) rfl hJ)) ?_
      refine all_cons (obs_v rfl (by
        intro k; intro _nm ρ σm hJ hoff hdep
        have e95 : look 178 ρ 95 = (Sl adata_0 ((data_0.set a_1.toNat (x1.1, x1.2)).set pivot_3.toNat (x8.1, x8.2)) cdata_0) := hdep 8 rfl rfl 95 rfl
        have e96 : look 178 ρ 96 = (I o27) := hdep 9 rfl rfl 96 rfl
        exact dp_v (v := (pt b124 o125)) (wanted_none _ rfl _) (rv_ix Try.underlying27 ti33 e95 e96 hi123) rfl hJ)) ?_
      refine all_cons (by
        refine ⟨?_, ?_⟩
        ·intro _nm ρ σm hJ hoff hdep
         have e97 : look 178 ρ 97 = (pt b124 o125) := hdep 10 rfl rfl 97 rfl
         obtain ⟨H, m⟩ := id hJ
         obtain ⟨_, ⟨_, _, rfl, rfl, rfl⟩, hl126, hc127⟩ := ((H.own 0 rfl).at hx122 hi123).cells
         exact dp_v (v := (.agg #[(I x121.1), (I x121.2)])) (wanted_none _ rfl _) (rv_load Try.underlying33 rfl ti33 e97 hl126 hc127) rfl hJ
        trivial) ?_
      refine all_cons (obs_v rfl (by
        intro k; intro _nm ρ σm hJ hoff hdep
        have e87 : look 178 ρ 87 = (Sl adata_0 ((data_0.set a_1.toNat (x1.1, x1.2)).set pivot_3.toNat (x8.1, x8.2)) cdata_0) := hdep 0 rfl rfl 87 rfl
        have e88 : look 178 ρ 88 = (I o27) := hdep 1 rfl rfl 88 rfl
        exact dp_v (v := (pt b131 o132)) (wanted_none _ rfl _) (rv_ix Try.underlying27 ti33 e87 e88 hi130) rfl hJ)) ?_
      refine all_cons (by
        refine ⟨?_, ?_⟩
        ·intro _nm ρ σm hJ hoff hdep
         have e99 : look 178 ρ 99 = (pt b131 o132) := hdep 12 rfl rfl 99 rfl
         have e94 : look 178 ρ 94 = (.agg #[(I x114.1), (I x114.2)]) := hdep 7 rfl rfl 94 rfl
         obtain ⟨H, m⟩ := id hJ
         refine dp_exS (wanted_none _ rfl _) rfl (ex_store_own (e' := (x114.1, x114.2)) (vs := [(I x114.1), (I x114.2)]) (k := 0) H (i := 0) rfl ti33 hx129 hi130 e99 rfl e94 rfl rfl (Nat.le_of_ble_eq_true rfl) (by simp [plain]) (by rintro _ ⟨_, _, rfl, rfl, rfl⟩; exact ⟨[(I x114.1)], [(I x114.2)], rfl, rfl, rfl⟩)) ?_
         rintro σq ⟨H2, m2⟩
         exact ⟨_, (), rfl, ⟨H2.sel' [0] rfl rfl, m.comp m2⟩, stab [0, 1, 2, 3, 4, 5, 6, 7, 8, 9, 10, 11, 12] (by kernel_rfl) ⟨rfl, rfl, rfl, rfl, rfl, rfl, rfl, rfl, rfl, rfl, rfl, rfl, rfl, trivial⟩⟩
        trivial) ?_
      exact all_nil
     ·intro _nm ρ σ133 hJ hoff hrel
      have e0 : look 178 ρ 0 = (Sl adata_0 ((data_0.set a_1.toNat (x1.1, x1.2)).set pivot_3.toNat (x8.1, x8.2)) cdata_0) := look_off (hoff 0 rfl) rfl
      have e1 : look 178 ρ 1 = (I a_1) := look_off (hoff 1 rfl) rfl
      have e4 : look 178 ρ 4 = (.func (.func 89) #[] #[]) := look_off (hoff 4 rfl) rfl
      have e12 : look 178 ρ 12 = (I o27) := look_off (hoff 12 rfl) rfl
      have e13 : look 178 ρ 13 = (I o57) := look_off (hoff 13 rfl) rfl
      have e89 : look 178 ρ 89 = (Sl adata_0 ((data_0.set a_1.toNat (x1.1, x1.2)).set pivot_3.toNat (x8.1, x8.2)) cdata_0) := hrel 2 rfl 89 rfl
      have e90 : look 178 ρ 90 = (I o57) := hrel 3 rfl 90 rfl
      have e98 : look 178 ρ 98 = (.agg #[(I x121.1), (I x121.2)]) := hrel 11 rfl 98 rfl
      obtain ⟨H, -⟩ := (show Hp S0 σ0 σ133 [Ch.own 0 0 (Sl adata_0 ((data_0.set a_1.toNat (x1.1, x1.2)).set pivot_3.toNat (x8.1, x8.2)) cdata_0) (((data_0.set a_1.toNat (x1.1, x1.2)).set pivot_3.toNat (x8.1, x8.2)).set o27.toNat (x114.1, x114.2))] ∧ Md (fun i => (cov []) i ∨ (fun b => blk (Sl adata_0 ((data_0.set a_1.toNat (x1.1, x1.2)).set pivot_3.toNat (x8.1, x8.2)) cdata_0) = some b) i) σ86 σ133 from hJ)
      clear hJ Hs
      rw [fr_lookL (L := [(0, (Sl adata_0 ((data_0.set a_1.toNat (x1.1, x1.2)).set pivot_3.toNat (x8.1, x8.2)) cdata_0)), (1, (I a_1)), (4, (.func (.func 89) #[] #[])), (12, (I o27)), (13, (I o57)), (89, (Sl adata_0 ((data_0.set a_1.toNat (x1.1, x1.2)).set pivot_3.toNat (x8.1, x8.2)) cdata_0)), (90, (I o57)), (98, (.agg #[(I x121.1), (I x121.2)]))]) ⟨e0, e1, e4, e12, e13, e89, e90, e98, trivial⟩]
      clear hoff hrel e0 e1 e4 e12 e13 e89 e90 e98
      have hsl : (Sl adata_0 ((data_0.set a_1.toNat (x1.1, x1.2)).set pivot_3.toNat (x8.1, x8.2)) cdata_0) = (Sl adata_0 (((data_0.set a_1.toNat (x1.1, x1.2)).set pivot_3.toNat (x8.1, x8.2)).set o27.toNat (x114.1, x114.2)) cdata_0) := sl_len (by simp)
      rw [hsl]; rw [hsl] at H; clear hsl
      obtain ⟨x134, hx135, h'⟩ := bind_some h
      clear h
      have h := h'; clear h'
      obtain ⟨b137, o138, hi136, -⟩ := (H.own 0 rfl).ix hx135
      refine st (v := (pt b137 o138)) (rv_ix Try.underlying27 ti33 rfl rfl hi136) ?_
      refine st_exS (ex_store_own (e' := (x121.1, x121.2)) (vs := [(I x121.1), (I x121.2)]) (k := 0) H (i := 0) rfl ti33 hx135 hi136 rfl rfl rfl rfl rfl (Nat.le_of_ble_eq_true rfl) (by simp [plain]) (by rintro _ ⟨_, _, rfl, rfl, rfl⟩; exact ⟨[(I x121.1)], [(I x121.2)], rfl, rfl, rfl⟩)) (wanted_none _ rfl _) ?_
      rintro σ139 ⟨H, -⟩
      have hsl : (Sl adata_0 (((data_0.set a_1.toNat (x1.1, x1.2)).set pivot_3.toNat (x8.1, x8.2)).set o27.toNat (x114.1, x114.2)) cdata_0) = (Sl adata_0 ((((data_0.set a_1.toNat (x1.1, x1.2)).set pivot_3.toNat (x8.1, x8.2)).set o27.toNat (x114.1, x114.2)).set o57.toNat (x121.1, x121.2)) cdata_0) := sl_len List.length_set.symm
      rw [hsl]; rw [hsl] at H; clear hsl
      refine w_end ?_
      refine q_then ?_
      refine c_seq ?_
      refine rg ?_
      refine st (v := (I o27)) (rv_move rfl) ?_
      refine st (v := (I (w64 (o27 + 1)))) (rv_add (a := o27) (b := 1) rfl rfl) ?_
      refine st (v := (I (w64 (o27 + 1)))) (rv_assign rfl) ?_
      refine w_end ?_
      refine q_then ?_
      refine c_seq ?_
      refine rg ?_
      refine st (v := (I o57)) (rv_move rfl) ?_
      refine st (v := (I (w64 (o57 - 1)))) (rv_sub (a := o57) (b := 1) rfl rfl) ?_
      refine st (v := (I (w64 (o57 - 1)))) (rv_assign rfl) ?_
      refine w_end ?_
      refine q_then ?_
      refine c_seq ?_
      obtain ⟨o140, hj, h'⟩ := bind_some h
      clear h
      refine c_cut (fun e a w => e = .normal ∧ ∃ (ρ : Nat → Value) (σ : St), a = fr 178 (updL ρ [(0, (Sl adata_0 o140.1 cdata_0)), (1, (I a_1)), (13, (I o140.2))]) ∧ w = σ.w ∧ Hp S0 σ0 σ [Ch.own 0 0 (Sl adata_0 o140.1 cdata_0) o140.1] ∧ o140.1.length = ((((data_0.set a_1.toNat (x1.1, x1.2)).set pivot_3.toNat (x8.1, x8.2)).set o27.toNat (x114.1, x114.2)).set o57.toNat (x121.1, x121.2)).length) ?_ ?_
      ·clear h'
       rename _ = some o140 => h
       refine c_blk ?_
       refine wp_loopM _ h (fun s141 a w => ∃ (ρ : Nat → Value) (σ : St), a = fr 178 (updL ρ [(0, (Sl adata_0 s141.1 cdata_0)), (1, (I a_1)), (4, (.func (.func 89) #[] #[])), (12, (I s141.2.1)), (13, (I s141.2.2))]) ∧ w = σ.w ∧ Hp S0 σ0 σ [Ch.own 0 0 (Sl adata_0 s141.1 cdata_0) s141.1] ∧ s141.1.length = ((((data_0.set a_1.toNat (x1.1, x1.2)).set pivot_3.toNat (x8.1, x8.2)).set o27.toNat (x114.1, x114.2)).set o57.toNat (x121.1, x121.2)).length) ⟨_, σ139, fr_join ⟨rfl, rfl, rfl, rfl, rfl, trivial⟩, rfl, H.sel' [0] rfl rfl, rfl⟩ ?_
       clear h H
       rintro s141 a w o ⟨ρ, σ142, rfl, rfl, H, hn143⟩ h hres
       refine c_blk ?_
       refine c_seq ?_
       obtain ⟨o144, hj, h'⟩ := bind_some h
       clear h
       refine c_cut (fun e a w => e = .normal ∧ ∃ (ρ : Nat → Value) (σ : St), a = fr 178 (updL ρ [(0, (Sl adata_0 s141.1 cdata_0)), (1, (I a_1)), (4, (.func (.func 89) #[] #[])), (12, (I o144)), (13, (I s141.2.2))]) ∧ w = σ.w ∧ Hp S0 σ0 σ [Ch.own 0 0 (Sl adata_0 s141.1 cdata_0) s141.1]) ?_ ?_
       ·clear h'
        rename _ = some o144 => h
        refine c_blk ?_
        refine wp_loopM _ h (fun s145 a w => ∃ (ρ : Nat → Value) (σ : St), a = fr 178 (updL ρ [(0, (Sl adata_0 s141.1 cdata_0)), (1, (I a_1)), (4, (.func (.func 89) #[] #[])), (12, (I s145)), (13, (I s141.2.2))]) ∧ w = σ.w ∧ Hp S0 σ0 σ [Ch.own 0 0 (Sl adata_0 s141.1 cdata_0) s141.1]) ⟨_, σ142, fr_join ⟨rfl, rfl, rfl, rfl, rfl, trivial⟩, rfl, H.sel' [0] rfl rfl⟩ ?_
        clear h H
        rintro s145 a w o ⟨ρ, σ146, rfl, rfl, H⟩ h hres
        refine c_seq ?_
        refine c_seq ?_
        obtain ⟨o147, hj, h'⟩ := bind_some h
        clear h
        refine c_cut (fun e a w => e = .normal ∧ ∃ (ρ : Nat → Value) (σ : St), a = fr 178 (updL ρ [(0, (Sl adata_0 s141.1 cdata_0)), (1, (I a_1)), (4, (.func (.func 89) #[] #[])), (12, (I s145)), (13, (I s141.2.2)), (120, (B o147))]) ∧ w = σ.w ∧ Hp S0 σ0 σ [Ch.own 0 0 (Sl adata_0 s141.1 cdata_0) s141.1]) ?_ ?_
        ·clear h'
         rename _ = some o147 => h
         refine rgP (σ := σ146) 13 (by kernel_rfl) (by kernel_rfl) (by kernel_rfl) ?_
         refine sq (v := (I s145)) (rv_move rfl) ?_
         refine sq (v := (I s141.2.2)) (rv_move rfl) ?_
         refine sq (v := (B (decide (s145 ≤ s141.2.2)))) (rv_leq (a := s145) (b := s141.2.2) rfl rfl) ?_
         refine sq (v := (B (decide (s145 ≤ s141.2.2)))) (rv_move rfl) ?_
         rcases Bool.eq_false_or_eq_true (decide (s145 ≤ s141.2.2)) with hb148 | hb148
         ·replace h := bif_t hb148 h
          refine sq_g (v := (.func (.func 89) #[] #[])) (congrArg some hb148) (rv_move rfl) ?_
          refine sq_g (v := (Sl adata_0 s141.1 cdata_0)) (congrArg some hb148) (rv_move rfl) ?_
          refine sq_g (v := (I s145)) (congrArg some hb148) (rv_move rfl) ?_
          obtain ⟨x149, hx150, h'⟩ := bind_some h
          clear h
          have h := h'; clear h'
          obtain ⟨b152, o153, hi151, -⟩ := (H.own 0 rfl).ix hx150
          refine sq_g (v := (pt b152 o153)) (congrArg some hb148) (rv_ix Try.underlying27 ti33 rfl rfl hi151) ?_
          obtain ⟨_, ⟨_, _, rfl, rfl, rfl⟩, hl154, hc155⟩ := ((H.own 0 rfl).at hx150 hi151).cells
          refine sq_g (v := (.agg #[(I x149.1), (I x149.2)])) (congrArg some hb148) (rv_load Try.underlying33 rfl ti33 rfl hl154 hc155) ?_
          refine sq_g (v := (Sl adata_0 s141.1 cdata_0)) (congrArg some hb148) (rv_move rfl) ?_
          refine sq_g (v := (I a_1)) (congrArg some hb148) (rv_move rfl) ?_
          obtain ⟨x156, hx157, h'⟩ := bind_some h
          clear h
          have h := h'; clear h'
          obtain ⟨b159, o160, hi158, -⟩ := (H.own 0 rfl).ix hx157
          refine sq_g (v := (pt b159 o160)) (congrArg some hb148) (rv_ix Try.underlying27 ti33 rfl rfl hi158) ?_
          obtain ⟨_, ⟨_, _, rfl, rfl, rfl⟩, hl161, hc162⟩ := ((H.own 0 rfl).at hx157 hi158).cells
          refine sq_g (v := (.agg #[(I x156.1), (I x156.2)])) (congrArg some hb148) (rv_load Try.underlying33 rfl ti33 rfl hl161 hc162) ?_
          refine sq_end ?_
          intro σ163 hm164
          replace H := H.grow (hm164.mono fun _ h => h); clear hm164
          obtain ⟨r165, hx166, h'⟩ := bind_some h
          clear h
          have h := h'; clear h'
          have hc167 := c_impl_compareHits hx166
          refine st_call (cx_call hc167 (ent_v (cap := []) hc167.fn rfl rfl) hn0 (show Hp S0 σ0 _ ([] ++ [Ch.own 0 0 (Sl adata_0 s141.1 cdata_0) s141.1]) from (H.sel' [0] rfl rfl))) (wanted_yes rfl (by exact (congrArg some hb148))) ?_
          rintro _ σ168 ⟨_, ⟨rfl, rfl⟩, H, -⟩
          replace H : Hp S0 σ0 σ168 [Ch.own 0 0 (Sl adata_0 s141.1 cdata_0) s141.1] := H
          refine st_g (v := (B (decide (r165 < 0)))) (congrArg some hb148) (rv_lss (a := r165) (b := 0) rfl rfl) ?_
          refine st (v := (B (decide (r165 < 0)))) (rv_pick_t (congrArg B hb148) rfl) ?_
          refine w_end ?_
          obtain rfl := Option.some.inj h
          exact ⟨rfl, _, σ168, fr_join ⟨rfl, rfl, rfl, rfl, rfl, rfl, trivial⟩, rfl, H.sel' [0] rfl rfl⟩
         ·replace h := bif_f hb148 h
          refine sq_skip (congrArg some hb148) ?_
          refine sq_skip (congrArg some hb148) ?_
          refine sq_skip (congrArg some hb148) ?_
          refine sq_skip (congrArg some hb148) ?_
          refine sq_skip (congrArg some hb148) ?_
          refine sq_skip (congrArg some hb148) ?_
          refine sq_skip (congrArg some hb148) ?_
          refine sq_skip (congrArg some hb148) ?_
          refine sq_skip (congrArg some hb148) ?_
          refine sq_end ?_
          intro σ169 hm170
          replace H := H.grow (hm170.mono fun _ h => h); clear hm170
          refine st_skip (congrArg some hb148) ?_
          refine st_skip (congrArg some hb148) ?_
          refine st (v := (B false)) (rv_pick_f (congrArg B hb148) rfl) ?_
          refine w_end ?_
          obtain rfl := Option.some.inj h
          exact ⟨rfl, _, σ169, fr_join ⟨rfl, rfl, rfl, rfl, rfl, rfl, trivial⟩, rfl, H.sel' [0] rfl rfl⟩
        ·clear hj
         have h := h'
         clear h' H
         rintro e a w ⟨rfl, ρ, σ171, rfl, rfl, H⟩
         refine q_then ?_
         refine cd_cond o147 rfl (fun hb172 => ?_) (fun hb172 => ?_)
         ·replace h := bif_t hb172 h
          refine c_skip ?_
          refine q_then ?_
          refine c_blk ?_
          refine rg ?_
          refine st (v := (I s145)) (rv_move rfl) ?_
          refine st (v := (I (w64 (s145 + 1)))) (rv_add (a := s145) (b := 1) rfl rfl) ?_
          refine st (v := (I (w64 (s145 + 1)))) (rv_assign rfl) ?_
          refine w_end ?_
          refine q_blk ?_
          refine q_then ?_
          obtain rfl := Option.some.inj h
          exact ⟨_, rfl, _, σ171, fr_join ⟨rfl, rfl, rfl, rfl, rfl, trivial⟩, rfl, H.sel' [0] rfl rfl⟩
         ·replace h := bif_f hb172 h
          refine c_exit ?_
          refine q_then_x ?_
          refine q_then_x ?_
          refine q_blk_hit ?_
          obtain rfl := Option.some.inj h
          obtain rfl := hres _ rfl
          exact ⟨rfl, _, σ171, fr_join ⟨rfl, rfl, rfl, rfl, rfl, trivial⟩, rfl, H.sel' [0] rfl rfl⟩
       ·clear hj
        have h := h'
        clear h' H
        rintro e a w ⟨rfl, ρ, σ173, rfl, rfl, H⟩
        refine q_then ?_
        refine c_seq ?_
        obtain ⟨o174, hj, h'⟩ := bind_some h
        clear h
        refine c_cut (fun e a w => e = .normal ∧ ∃ (ρ : Nat → Value) (σ : St), a = fr 178 (updL ρ [(0, (Sl adata_0 s141.1 cdata_0)), (1, (I a_1)), (4, (.func (.func 89) #[] #[])), (12, (I o144)), (13, (I o174))]) ∧ w = σ.w ∧ Hp S0 σ0 σ [Ch.own 0 0 (Sl adata_0 s141.1 cdata_0) s141.1]) ?_ ?_
        ·clear h'
         rename _ = some o174 => h
         refine c_blk ?_
         refine wp_loopM _ h (fun s175 a w => ∃ (ρ : Nat → Value) (σ : St), a = fr 178 (updL ρ [(0, (Sl adata_0 s141.1 cdata_0)), (1, (I a_1)), (4, (.func (.func 89) #[] #[])), (12, (I o144)), (13, (I s175))]) ∧ w = σ.w ∧ Hp S0 σ0 σ [Ch.own 0 0 (Sl adata_0 s141.1 cdata_0) s141.1]) ⟨_, σ173, fr_join ⟨rfl, rfl, rfl, rfl, rfl, trivial⟩, rfl, H.sel' [0] rfl rfl⟩ ?_
         clear h H
         rintro s175 a w o ⟨ρ, σ176, rfl, rfl, H⟩ h hres
         refine c_seq ?_
         refine c_seq ?_
         obtain ⟨o177, hj, h'⟩ := bind_some h
         clear h
         refine c_cut (fun e a w => e = .normal ∧ ∃ (ρ : Nat → Value) (σ : St), a = fr 178 (updL ρ [(0, (Sl adata_0 s141.1 cdata_0)), (1, (I a_1)), (4, (.func (.func 89) #[] #[])), (12, (I o144)), (13, (I s175)), (139, (B o177))]) ∧ w = σ.w ∧ Hp S0 σ0 σ [Ch.own 0 0 (Sl adata_0 s141.1 cdata_0) s141.1]) ?_ ?_
         ·clear h'
          rename _ = some o177 => h
          refine rgP (σ := σ176) 13 (by kernel_rfl) (by kernel_rfl) (by kernel_rfl) ?_
          refine sq (v := (I o144)) (rv_move rfl) ?_
          refine sq (v := (I s175)) (rv_move rfl) ?_
          refine sq (v := (B (decide (o144 ≤ s175)))) (rv_leq (a := o144) (b := s175) rfl rfl) ?_
          refine sq (v := (B (decide (o144 ≤ s175)))) (rv_move rfl) ?_
          rcases Bool.eq_false_or_eq_true (decide (o144 ≤ s175)) with hb178 | hb178
          ·replace h := bif_t hb178 h
           refine sq_g (v := (.func (.func 89) #[] #[])) (congrArg some hb178) (rv_move rfl) ?_
           refine sq_g (v := (Sl adata_0 s141.1 cdata_0)) (congrArg some hb178) (rv_move rfl) ?_
           refine sq_g (v := (I s175)) (congrArg some hb178) (rv_move rfl) ?_
           obtain ⟨x179, hx180, h'⟩ := bind_some h
           clear h
           have h := h'; clear h'
           obtain ⟨b182, o183, hi181, -⟩ := (H.own 0 rfl).ix hx180
           refine sq_g (v := (pt b182 o183)) (congrArg some hb178) (rv_ix Try.underlying27 ti33 rfl rfl hi181) ?_
           obtain ⟨_, ⟨_, _, rfl, rfl, rfl⟩, hl184, hc185⟩ := ((H.own 0 rfl).at hx180 hi181).cells
           refine sq_g (v := (.agg #[(I x179.1), (I x179.2)])) (congrArg some hb178) (rv_load Try.underlying33 rfl ti33 rfl hl184 hc185) ?_
           refine sq_g (v := (Sl adata_0 s141.1 cdata_0)) (congrArg some hb178) (rv_move rfl) ?_
           refine sq_g (v := (I a_1)) (congrArg some hb178) (rv_move rfl) ?_
           obtain ⟨x186, hx187, h'⟩ := bind_some h
           clear h
           have h := h'; clear h'
           obtain ⟨b189, o190, hi188, -⟩ := (H.own 0 rfl).ix hx187
           refine sq_g (v := (pt b189 o190)) (congrArg some hb178) (rv_ix Try.underlying27 ti33 rfl rfl hi188) ?_
           obtain ⟨_, ⟨_, _, rfl, rfl, rfl⟩, hl191, hc192⟩ := ((H.own 0 rfl).at hx187 hi188).cells
           refine sq_g (v := (.agg #[(I x186.1), (I x186.2)])) (congrArg some hb178) (rv_load Try.underlying33 rfl ti33 rfl hl191 hc192) ?_
           refine sq_end ?_
           intro σ193 hm194
           replace H := H.grow (hm194.mono fun _ h => h); clear hm194
           obtain ⟨r195, hx196, h'⟩ := bind_some h
           clear h
           have h := h'; clear h'
           have hc197 := c_impl_compareHits hx196
           refine st_call (cx_call hc197 (ent_v (cap := []) hc197.fn rfl rfl) hn0 (show Hp S0 σ0 _ ([] ++ [Ch.own 0 0 (Sl adata_0 s141.1 cdata_0) s141.1]) from (H.sel' [0] rfl rfl))) (wanted_yes rfl (by exact (congrArg some hb178))) ?_
           rintro _ σ198 ⟨_, ⟨rfl, rfl⟩, H, -⟩
           replace H : Hp S0 σ0 σ198 [Ch.own 0 0 (Sl adata_0 s141.1 cdata_0) s141.1] := H
           refine st_g (v := (B (decide (r195 < 0)))) (congrArg some hb178) (rv_lss (a := r195) (b := 0) rfl rfl) ?_
           refine st_g (v := (B (!(decide (r195 < 0))))) (congrArg some hb178) (rv_not rfl) ?_
           refine st (v := (B (!(decide (r195 < 0))))) (rv_pick_t (congrArg B hb178) rfl) ?_
           refine w_end ?_
           obtain rfl := Option.some.inj h
           exact ⟨rfl, _, σ198, fr_join ⟨rfl, rfl, rfl, rfl, rfl, rfl, trivial⟩, rfl, H.sel' [0] rfl rfl⟩
          ·replace h := bif_f hb178 h
           refine sq_skip (congrArg some hb178) ?_
           refine sq_skip (congrArg some hb178) ?_
           refine sq_skip (congrArg some hb178) ?_
           refine sq_skip (congrArg some hb178) ?_
           refine sq_skip (congrArg some hb178) ?_
           refine sq_skip (congrArg some hb178) ?_
           refine sq_skip (congrArg some hb178) ?_
           refine sq_skip (congrArg some hb178) ?_
           refine sq_skip (congrArg some hb178) ?_
           refine sq_end ?_
           intro σ199 hm200
           replace H := H.grow (hm200.mono fun _ h => h); clear hm200
           refine st_skip (congrArg some hb178) ?_
           refine st_skip (congrArg some hb178) ?_
           refine st_skip (congrArg some hb178) ?_
           refine st (v := (B false)) (rv_pick_f (congrArg B hb178) rfl) ?_
           refine w_end ?_
           obtain rfl := Option.some.inj h
           exact ⟨rfl, _, σ199, fr_join ⟨rfl, rfl, rfl, rfl, rfl, rfl, trivial⟩, rfl, H.sel' [0] rfl rfl⟩
         ·clear hj
          have h := h'
          clear h' H
          rintro e a w ⟨rfl, ρ, σ201, rfl, rfl, H⟩
          refine q_then ?_
          refine cd_cond o177 rfl (fun hb202 => ?_) (fun hb202 => ?_)
          ·replace h := bif_t hb202 h
           refine c_skip ?_
           refine q_then ?_
           refine c_blk ?_
           refine rg ?_
           refine st (v := (I s175)) (rv_move rfl) ?_
           refine st (v := (I (w64 (s175 - 1)))) (rv_sub (a := s175) (b := 1) rfl rfl) ?_
           refine st (v := (I (w64 (s175 - 1)))) (rv_assign rfl) ?_
           refine w_end ?_
           refine q_blk ?_
           refine q_then ?_
           obtain rfl := Option.some.inj h
           exact ⟨_, rfl, _, σ201, fr_join ⟨rfl, rfl, rfl, rfl, rfl, trivial⟩, rfl, H.sel' [0] rfl rfl⟩
          ·replace h := bif_f hb202 h
           refine c_exit ?_
           refine q_then_x ?_
           refine q_then_x ?_
           refine q_blk_hit ?_
           obtain rfl := Option.some.inj h
           obtain rfl := hres _ rfl
           exact ⟨rfl, _, σ201, fr_join ⟨rfl, rfl, rfl, rfl, rfl, trivial⟩, rfl, H.sel' [0] rfl rfl⟩
        ·clear hj
         have h := h'
         clear h' H
         rintro e a w ⟨rfl, ρ, σ203, rfl, rfl, H⟩
         refine q_then ?_
         refine c_seq ?_
         refine c_seq ?_
         refine rg ?_
         refine st (v := (I o144)) (rv_move rfl) ?_
         refine st (v := (I o174)) (rv_move rfl) ?_
         refine st (v := (B (decide (o174 < o144)))) (rv_gtr (a := o144) (b := o174) rfl rfl) ?_
         refine w_end ?_
         refine q_then ?_
         refine cd_cond (decide (o174 < o144)) rfl (fun hb204 => ?_) (fun hb204 => ?_)
         ·replace h := bif_t hb204 h
          refine c_exit ?_
          refine q_then_x ?_
          refine q_blk_x (by decide) ?_
          refine q_then_x ?_
          refine q_blk_hit ?_
          obtain rfl := Option.some.inj h
          obtain rfl := hres _ rfl
          exact ⟨rfl, _, σ203, fr_join ⟨rfl, rfl, rfl, trivial⟩, rfl, H.sel' [0] rfl rfl, ((hn143.trans (List.length_set.trans (List.length_set.trans (List.length_set.trans List.length_set)))).trans (List.length_set.trans (List.length_set.trans (List.length_set.trans List.length_set))).symm)⟩
         ·replace h := bif_f hb204 h
          refine c_skip ?_
          refine q_then ?_
          refine c_seq ?_
          obtain ⟨x205, hx206, h'⟩ := bind_some h
          clear h
          have h := h'; clear h'
          obtain ⟨b208, o209, hi207, -⟩ := (H.own 0 rfl).ix hx206
          obtain ⟨_, ⟨_, _, rfl, rfl, rfl⟩, hl210, hc211⟩ := ((H.own 0 rfl).at hx206 hi207).cells
          obtain ⟨x212, hx213, h'⟩ := bind_some h
          clear h
          have h := h'; clear h'
          obtain ⟨b215, o216, hi214, -⟩ := (H.own 0 rfl).ix hx213
          obtain ⟨_, ⟨_, _, rfl, rfl, rfl⟩, hl217, hc218⟩ := ((H.own 0 rfl).at hx213 hi214).cells
          obtain ⟨x219, hx220, h'⟩ := bind_some h
          clear h
          have h := h'; clear h'
          obtain ⟨b222, o223, hi221, -⟩ := (H.own 0 rfl).ix hx220
          have Hs := H
          refine rg2 (σ := σ203) (Nm := Unit) 14 [13] [[false], [true]] [[(0, 0)], [(0, 0)], [(0, 0), (1, 1)], [(0, 0), (1, 1)], [(0, 0)], [(0, 0)], [(0, 0)], [(0, 0)], [(0, 0)], [(0, 0)], [(0, 0)], [(0, 0)], [(0, 0)], [(0, 1)]] 1 [fun (_nm : Unit) => fun σm => Hp S0 σ0 σm [Ch.own 0 0 (Sl adata_0 s141.1 cdata_0) s141.1] ∧ Md (cov []) σ203 σm, fun (_nm : Unit) => fun σm => Hp S0 σ0 σm [Ch.own 0 0 (Sl adata_0 s141.1 cdata_0) (s141.1.set o144.toNat (x205.1, x205.2))] ∧ Md (fun i => (cov []) i ∨ (fun b => blk (Sl adata_0 s141.1 cdata_0) = some b) i) σ203 σm] [fun (_nm : Unit) => (Sl adata_0 s141.1 cdata_0), fun (_nm : Unit) => (I o144), fun (_nm : Unit) => (Sl adata_0 s141.1 cdata_0), fun (_nm : Unit) => (I o174), fun (_nm : Unit) => (Sl adata_0 s141.1 cdata_0), fun (_nm : Unit) => (I o174), fun (_nm : Unit) => (pt b208 o209), fun (_nm : Unit) => (.agg #[(I x205.1), (I x205.2)]), fun (_nm : Unit) => (Sl adata_0 s141.1 cdata_0), fun (_nm : Unit) => (I o144), fun (_nm : Unit) => (pt b215 o216), fun (_nm : Unit) => (.agg #[(I x212.1), (I x212.2)]), fun (_nm : Unit) => (pt b222 o223), fun (_nm : Unit) => undef] () (by kernel_rfl) (by kernel_rfl) ?_ ?_ ?_
          ·intro σm m0
           exact ⟨H.grow (m0.mono fun _ h => h.elim), m0⟩
          ·refine all_cons (obs_v rfl (by
             intro k; intro _nm ρ σm hJ hoff hdep
             have e0 : look 178 ρ 0 = (Sl adata_0 s141.1 cdata_0) := look_off (hoff 0 rfl) rfl
             exact dp_v (v := (Sl adata_0 s141.1 cdata_0)) (wanted_none _ rfl _) (rv_move e0) rfl hJ)) ?_
           refine all_cons (obs_v rfl (by
             intro k; intro _nm ρ σm hJ hoff hdep
             have e12 : look 178 ρ 12 = (I o144) := look_off (hoff 12 rfl) rfl
             exact dp_v (v := (I o144)) (wanted_none _ rfl _) (rv_move e12) rfl hJ)) ?_
           refine all_cons (obs_v rfl (by
             intro k; intro _nm ρ σm hJ hoff hdep
             have e0 : look 178 ρ 0 = (Sl adata_0 s141.1 cdata_0) := look_off (hoff 0 rfl) rfl
             exact dp_v (v := (Sl adata_0 s141.1 cdata_0)) (wanted_none _ rfl _) (rv_move e0) rfl hJ)) ?_
           refine all_cons (obs_v rfl (by
             intro k; intro _nm ρ σm hJ hoff hdep
             have e13 : look 178 ρ 13 = (I o174) := look_off (hoff 13 rfl) rfl
             exact dp_v (v := (I o174)) (wanted_none _ rfl _) (rv_move e13) rfl hJ)) ?_
           refine all_cons (obs_v rfl (by
             intro k; intro _nm ρ σm hJ hoff hdep
             have e0 : look 178 ρ 0 = (Sl adata_0 s141.1 cdata_0) := look_off (hoff 0 rfl) rfl
             exact dp_v (v := (Sl adata_0 s141.1 cdata_0)) (wanted_none _ rfl _) (rv_move e0) rfl hJ)) ?_
           refine all_cons (obs_v rfl (by
             intro k; intro _nm ρ σm hJ hoff hdep
             have e13 : look 178 ρ 13 = (I o174) := look_off (hoff 13 rfl) rfl
             exact dp_v (v := (I o174)) (wanted_none _ rfl _) (rv_move e13) rfl hJ)) ?_
           refine all_cons (obs_v rfl (by
             intro k; intro _nm ρ σm hJ hoff hdep
             have e149 : look 178 ρ 149 = (Sl adata_0 s141.1 cdata_0) := hdep 4 rfl rfl 149 rfl
             have e150 : look 178 ρ 150 = (I o174) := hdep 5 rfl rfl 150 rfl
             exact dp_v (v := (pt b208 o209)) (wanted_none _ rfl _) (rv_ix Try.underlying27 ti33 e149 e150 hi207) rfl hJ)) ?_
           refine all_cons (by
             refine ⟨?_, ?_⟩
             ·intro _nm ρ σm hJ hoff hdep
              have e151 : look 178 ρ 151 = (pt b208 o209) := hdep 6 rfl rfl 151 rfl
              obtain ⟨H, m⟩ := id hJ
              obtain ⟨_, ⟨_, _, rfl, rfl, rfl⟩, hl210, hc211⟩ := ((H.own 0 rfl).at hx206 hi207).cells
              exact dp_v (v := (.agg #[(I x205.1), (I x205.2)])) (wanted_none _ rfl _) (rv_load Try.underlying33 rfl ti33 e151 hl210 hc211) rfl hJ
             trivial) ?_
           refine all_cons (obs_v rfl (by
             intro k; intro _nm ρ σm hJ hoff hdep
             have e0 : look 178 ρ 0 = (Sl adata_0 s141.1 cdata_0) := look_off (hoff 0 rfl) rfl
             exact dp_v (v := (Sl adata_0 s141.1 cdata_0)) (wanted_none _ rfl _) (rv_move e0) rfl hJ)) ?_
           refine all_cons (obs_v rfl (by
             intro k; intro _nm ρ σm hJ hoff hdep
             have e12 : look 178 ρ 12 = (I o144) := look_off (hoff 12 rfl) rfl
             exact dp_v (v := (I o144)) (wanted_none _ rfl _) (rv_move e12) rfl hJ)) ?_
           refine all_cons (obs_v rfl (by
             intro k; intro _nm ρ σm hJ hoff hdep
             have e153 : look 178 ρ 153 = (Sl adata_0 s141.1 cdata_0) := hdep 8 rfl rfl 153 rfl
             have e154 : look 178 ρ 154 = (I o144) := hdep 9 rfl rfl 154 rfl
             exact dp_v (v := (pt b215 o216)) (wanted_none _ rfl _) (rv_ix Try.underlying27 ti33 e153 e154 hi214) rfl hJ)) ?_
           refine all_cons (by
             refine ⟨?_, ?_⟩
             ·intro _nm ρ σm hJ hoff hdep
              have e155 : look 178 ρ 155 = (pt b215 o216) := hdep 10 rfl rfl 155 rfl
              obtain ⟨H, m⟩ := id hJ
              obtain ⟨_, ⟨_, _, rfl, rfl, rfl⟩, hl217, hc218⟩ := ((H.own 0 rfl).at hx213 hi214).cells
              exact dp_v (v := (.agg #[(I x212.1), (I x212.2)])) (wanted_none _ rfl _) (rv_load Try.underlying33 rfl ti33 e155 hl217 hc218) rfl hJ
             trivial) ?_
           refine all_cons (obs_v rfl (by
             intro k; intro _nm ρ σm hJ hoff hdep
             have e145 : look 178 ρ 145 = (Sl adata_0 s141.1 cdata_0) := hdep 0 rfl rfl 145 rfl
             have e146 : look 178 ρ 146 = (I o144) := hdep 1 rfl rfl 146 rfl
             exact dp_v (v := (pt b222 o223)) (wanted_none _ rfl _) (rv_ix Try.underlying27 ti33 e145 e146 hi221) rfl hJ)) ?_
           refine all_cons (by
             refine ⟨?_, ?_⟩
             ·intro _nm ρ σm hJ hoff hdep
              have e157 : look 178 ρ 157 = (pt b222 o223) := hdep 12 rfl rfl 157 rfl
              have e152 : look 178 ρ 152 = (.agg #[(I x205.1), (I x205.2)]) := hdep 7 rfl rfl 152 rfl
              obtain ⟨H, m⟩ := id hJ
              refine dp_exS (wanted_none _ rfl _) rfl (ex_store_own (e' := (x205.1, x205.2)) (vs := [(I x205.1), (I x205.2)]) (k := 0) H (i := 0) rfl ti33 hx220 hi221 e157 rfl e152 rfl rfl (Nat.le_of_ble_eq_true rfl) (by simp [plain]) (by rintro _ ⟨_, _, rfl, rfl, rfl⟩; exact ⟨[(I x205.1)], [(I x205.2)], rfl, rfl, rfl⟩)) ?_
              rintro σq ⟨H2, m2⟩
              exact ⟨_, (), rfl, ⟨H2.sel' [0] rfl rfl, m.comp m2⟩, stab [0, 1, 2, 3, 4, 5, 6, 7, 8, 9, 10, 11, 12] (by kernel_rfl) ⟨rfl, rfl, rfl, rfl, rfl, rfl, rfl, rfl, rfl, rfl, rfl, rfl, rfl, trivial⟩⟩
             trivial) ?_
           exact all_nil
          ·intro _nm ρ σ224 hJ hoff hrel
           have e0 : look 178 ρ 0 = (Sl adata_0 s141.1 cdata_0) := look_off (hoff 0 rfl) rfl
           have e1 : look 178 ρ 1 = (I a_1) := look_off (hoff 1 rfl) rfl
           have e4 : look 178 ρ 4 = (.func (.func 89) #[] #[]) := look_off (hoff 4 rfl) rfl
           have e12 : look 178 ρ 12 = (I o144) := look_off (hoff 12 rfl) rfl
           have e13 : look 178 ρ 13 = (I o174) := look_off (hoff 13 rfl) rfl
           have e147 : look 178 ρ 147 = (Sl adata_0 s141.1 cdata_0) := hrel 2 rfl 147 rfl
           have e148 : look 178 ρ 148 = (I o174) := hrel 3 rfl 148 rfl
           have e156 : look 178 ρ 156 = (.agg #[(I x212.1), (I x212.2)]) := hrel 11 rfl 156 rfl
           obtain ⟨H, -⟩ := (show Hp S0 σ0 σ224 [Ch.own 0 0 (Sl adata_0 s141.1 cdata_0) (s141.1.set o144.toNat (x205.1, x205.2))] ∧ Md (fun i => (cov []) i ∨ (fun b => blk (Sl adata_0 s141.1 cdata_0) = some b) i) σ203 σ224 from hJ)
           clear hJ Hs
           rw [fr_lookL (L := [(0, (Sl adata_0 s141.1 cdata_0)), (1, (I a_1)), (4, (.func (.func 89) #[] #[])), (12, (I o144)), (13, (I o174)), (147, (Sl adata_0 s141.1 cdata_0)), (148, (I o174)), (156, (.agg #[(I x212.1), (I x212.2)]))]) ⟨e0, e1, e4, e12, e13, e147, e148, e156, trivial⟩]
           clear hoff hrel e0 e1 e4 e12 e13 e147 e148 e156
           have hsl : (Sl adata_0 s141.1 cdata_0) = (Sl adata_0 (s141.1.set o144.toNat (x205.1, x205.2)) cdata_0) := sl_len (by simp)
           rw [hsl]; rw [hsl] at H; clear hsl
           obtain ⟨x225, hx226, h'⟩ := bind_some h
           clear h
           have h := h'; clear h'
           obtain ⟨b228, o229, hi227, -⟩ := (H.own 0 rfl).ix hx226
           refine st (v := (pt b228 o229)) (rv_ix Try.underlying27 ti33 rfl rfl hi227) ?_
           refine st_exS (ex_store_own (e' := (x212.1, x212.2)) (vs := [(I x212.1), (I x212.2)]) (k := 0) H (i := 0) rfl ti33 hx226 hi227 rfl rfl rfl rfl rfl (Nat.le_of_ble_eq_true rfl) (by simp [plain]) (by rintro _ ⟨_, _, rfl, rfl, rfl⟩; exact ⟨[(I x212.1)], [(I x212.2)], rfl, rfl, rfl⟩)) (wanted_none _ rfl _) ?_
           rintro σ230 ⟨H, -⟩
           have hsl : (Sl adata_0 (s141.1.set o144.toNat (x205.1, x205.2)) cdata_0) = (Sl adata_0 ((s141.1.set o144.toNat (x205.1, x205.2)).set o174.toNat (x212.1, x212.2)) cdata_0) := sl_len List.length_set.symm
           rw [hsl]; rw [hsl] at H; clear hsl
           refine w_end ?_
           refine q_then ?_
           refine c_seq ?_
           refine rg ?_
           refine st (v := (I o144)) (rv_move rfl) ?_
           refine st (v := (I (w64 (o144 + 1)))) (rv_add (a := o144) (b := 1) rfl rfl) ?_
           refine st (v := (I (w64 (o144 + 1)))) (rv_assign rfl) ?_
           refine w_end ?_
           refine q_then ?_
           refine rg ?_
           refine st (v := (I o174)) (rv_move rfl) ?_
           refine st (v := (I (w64 (o174 - 1)))) (rv_sub (a := o174) (b := 1) rfl rfl) ?_
           refine st (v := (I (w64 (o174 - 1)))) (rv_assign rfl) ?_
           refine w_end ?_
           refine q_blk ?_
           refine q_then ?_
           obtain rfl := Option.some.inj h
           exact ⟨_, rfl, _, σ230, fr_join ⟨rfl, rfl, rfl, rfl, rfl, trivial⟩, rfl, H.sel' [0] rfl rfl, ((List.length_set.trans (List.length_set.trans (hn143.trans (List.length_set.trans (List.length_set.trans (List.length_set.trans List.length_set)))))).trans (List.length_set.trans (List.length_set.trans (List.length_set.trans List.length_set))).symm)⟩
      ·clear hj
       have h := h'
       clear h' H
       rintro e a w ⟨rfl, ρ, σ231, rfl, rfl, H, hn232⟩
       refine q_then ?_
       refine c_seq ?_
       obtain ⟨x233, hx234, h'⟩ := bind_some h
       clear h
       have h := h'; clear h'
       obtain ⟨b236, o237, hi235, -⟩ := (H.own 0 rfl).ix hx234
       obtain ⟨_, ⟨_, _, rfl, rfl, rfl⟩, hl238, hc239⟩ := ((H.own 0 rfl).at hx234 hi235).cells
       obtain ⟨x240, hx241, h'⟩ := bind_some h
       clear h
       have h := h'; clear h'
       obtain ⟨b243, o244, hi242, -⟩ := (H.own 0 rfl).ix hx241
       obtain ⟨_, ⟨_, _, rfl, rfl, rfl⟩, hl245, hc246⟩ := ((H.own 0 rfl).at hx241 hi242).cells
       obtain ⟨x247, hx248, h'⟩ := bind_some h
       clear h
       have h := h'; clear h'
       obtain ⟨b250, o251, hi249, -⟩ := (H.own 0 rfl).ix hx248
       have Hs := H
       refine rg2 (σ := σ231) (Nm := Unit) 14 [13] [[false], [true]] [[(0, 0)], [(0, 0)], [(0, 0), (1, 1)], [(0, 0), (1, 1)], [(0, 0)], [(0, 0)], [(0, 0)], [(0, 0)], [(0, 0)], [(0, 0)], [(0, 0)], [(0, 0)], [(0, 0)], [(0, 1)]] 1 [fun (_nm : Unit) => fun σm => Hp S0 σ0 σm [Ch.own 0 0 (Sl adata_0 o140.1 cdata_0) o140.1] ∧ Md (cov []) σ231 σm, fun (_nm : Unit) => fun σm => Hp S0 σ0 σm [Ch.own 0 0 (Sl adata_0 o140.1 cdata_0) (o140.1.set o140.2.toNat (x233.1, x233.2))] ∧ Md (fun i => (cov []) i ∨ (fun b => blk (Sl adata_0 o140.1 cdata_0) = some b) i) σ231 σm] [fun (_nm : Unit) => (Sl adata_0 o140.1 cdata_0), fun (_nm : Unit) => (I o140.2), fun (_nm : Unit) => (Sl adata_0 o140.1 cdata_0), fun (_nm : Unit) => (I a_1), fun (_nm : Unit) => (Sl adata_0 o140.1 cdata_0), fun (_nm : Unit) => (I a_1), fun (_nm : Unit) => (pt b236 o237), fun (_nm : Unit) => (.agg #[(I x233.1), (I x233.2)]), fun (_nm : Unit) => (Sl adata_0 o140.1 cdata_0), fun (_nm : Unit) => (I o140.2), fun (_nm : Unit) => (pt b243 o244), fun (_nm : Unit) => (.agg #[(I x240.1), (I x240.2)]), fun (_nm : Unit) => (pt b250 o251), fun (_nm : Unit) => undef] () (by kernel_rfl) (by kernel_rfl) ?_ ?_ ?_
       ·intro σm m0
        exact ⟨H.grow (m0.mono fun _ h => h.elim), m0⟩
       ·refine all_cons (obs_v rfl (by
          intro k; intro _nm ρ σm hJ hoff hdep
          have e0 : look 178 ρ 0 = (Sl adata_0 o140.1 cdata_0) := look_off (hoff 0 rfl) rfl
          exact dp_v (v := (Sl adata_0 o140.1 cdata_0)) (wanted_none _ rfl _) (rv_move e0) rfl hJ)) ?_
        refine all_cons (obs_v rfl (by
          intro k; intro _nm ρ σm hJ hoff hdep
          have e13 : look 178 ρ 13 = (I o140.2) := look_off (hoff 13 rfl) rfl
          exact dp_v (v := (I o140.2)) (wanted_none _ rfl _) (rv_move e13) rfl hJ)) ?_
        refine all_cons (obs_v rfl (by
          intro k; intro _nm ρ σm hJ hoff hdep
          have e0 : look 178 ρ 0 = (Sl adata_0 o140.1 cdata_0) := look_off (hoff 0 rfl) rfl
          exact dp_v (v := (Sl adata_0 o140.1 cdata_0)) (wanted_none _ rfl _) (rv_move e0) rfl hJ)) ?_
        refine all_cons (obs_v rfl (by
          intro k; intro _nm ρ σm hJ hoff hdep
          have e1 : look 178 ρ 1 = (I a_1) := look_off (hoff 1 rfl) rfl
          exact dp_v (v := (I a_1)) (wanted_none _ rfl _) (rv_move e1) rfl hJ)) ?_
        refine all_cons (obs_v rfl (by
          intro k; intro _nm ρ σm hJ hoff hdep
          have e0 : look 178 ρ 0 = (Sl adata_0 o140.1 cdata_0) := look_off (hoff 0 rfl) rfl
          exact dp_v (v := (Sl adata_0 o140.1 cdata_0)) (wanted_none _ rfl _) (rv_move e0) rfl hJ)) ?_
        refine all_cons (obs_v rfl (by
          intro k; intro _nm ρ σm hJ hoff hdep
          have e1 : look 178 ρ 1 = (I a_1) := look_off (hoff 1 rfl) rfl
          exact dp_v (v := (I a_1)) (wanted_none _ rfl _) (rv_move e1) rfl hJ)) ?_
        refine all_cons (obs_v rfl (by
          intro k; intro _nm ρ σm hJ hoff hdep
          have e167 : look 178 ρ 167 = (Sl adata_0 o140.1 cdata_0) := hdep 4 rfl rfl 167 rfl
          have e168 : look 178 ρ 168 = (I a_1) := hdep 5 rfl rfl 168 rfl
          exact dp_v (v := (pt b236 o237)) (wanted_none _ rfl _) (rv_ix Try.underlying27 ti33 e167 e168 hi235) rfl hJ)) ?_
        refine all_cons (by
          refine ⟨?_, ?_⟩
          ·intro _nm ρ σm hJ hoff hdep
           have e169 : look 178 ρ 169 = (pt b236 o237) := hdep 6 rfl rfl 169 rfl
           obtain ⟨H, m⟩ := id hJ
           obtain ⟨_, ⟨_, _, rfl, rfl, rfl⟩, hl238, hc239⟩ := ((H.own 0 rfl).at hx234 hi235).cells
           exact dp_v (v := (.agg #[(I x233.1), (I x233.2)])) (wanted_none _ rfl _) (rv_load Try.underlying33 rfl ti33 e169 hl238 hc239) rfl hJ
          trivial) ?_
        refine all_cons (obs_v rfl (by
          intro k; intro _nm ρ σm hJ hoff hdep
          have e0 : look 178 ρ 0 = (Sl adata_0 o140.1 cdata_0) := look_off (hoff 0 rfl) rfl
          exact dp_v (v := (Sl adata_0 o140.1 cdata_0)) (wanted_none _ rfl _) (rv_move e0) rfl hJ)) ?_
        refine all_cons (obs_v rfl (by
          intro k; intro _nm ρ σm hJ hoff hdep
          have e13 : look 178 ρ 13 = (I o140.2) := look_off (hoff 13 rfl) rfl
          exact dp_v (v := (I o140.2)) (wanted_none _ rfl _) (rv_move e13) rfl hJ)) ?_
        refine all_cons (obs_v rfl (by
          intro k; intro _nm ρ σm hJ hoff hdep
          have e171 : look 178 ρ 171 = (Sl adata_0 o140.1 cdata_0) := hdep 8 rfl rfl 171 rfl
          have e172 : look 178 ρ 172 = (I o140.2) := hdep 9 rfl rfl 172 rfl
          exact dp_v (v := (pt b243 o244)) (wanted_none _ rfl _) (rv_ix Try.underlying27 ti33 e171 e172 hi242) rfl hJ)) ?_
        refine all_cons (by
          refine ⟨?_, ?_⟩
          ·intro _nm ρ σm hJ hoff hdep
           have e173 : look 178 ρ 173 = (pt b243 o244) := hdep 10 rfl rfl 173 rfl
           obtain ⟨H, m⟩ := id hJ
           obtain ⟨_, ⟨_, _, rfl, rfl, rfl⟩, hl245, hc246⟩ := ((H.own 0 rfl).at hx241 hi242).cells
           exact dp_v (v := (.agg #[(I x240.1), (I x240.2)])) (wanted_none _ rfl _) (rv_load Try.underlying33 rfl ti33 e173 hl245 hc246) rfl hJ
          trivial) ?_
        refine all_cons (obs_v rfl (by
          intro k; intro _nm ρ σm hJ hoff hdep
          have e163 : look 178 ρ 163 = (Sl adata_0 o140.1 cdata_0) := hdep 0 rfl rfl 163 rfl
          have e164 : look 178 ρ 164 = (I o140.2) := hdep 1 rfl rfl 164 rfl
          exact dp_v (v := (pt b250 o251)) (wanted_none _ rfl _) (rv_ix Try.underlying27 ti33 e163 e164 hi249) rfl hJ)) ?_
        refine all_cons (by
          refine ⟨?_, ?_⟩
          ·intro _nm ρ σm hJ hoff hdep
           have e175 : look 178 ρ 175 = (pt b250 o251) := hdep 12 rfl rfl 175 rfl
           have e170 : look 178 ρ 170 = (.agg #[(I x233.1), (I x233.2)]) := hdep 7 rfl rfl 170 rfl
           obtain ⟨H, m⟩ := id hJ
           refine dp_exS (wanted_none _ rfl _) rfl (ex_store_own (e' := (x233.1, x233.2)) (vs := [(I x233.1), (I x233.2)]) (k := 0) H (i := 0) rfl ti33 hx248 hi249 e175 rfl e170 rfl rfl (Nat.le_of_ble_eq_true rfl) (by simp [plain]) (by rintro _ ⟨_, _, rfl, rfl, rfl⟩; exact ⟨[(I x233.1)], [(I x233.2)], rfl, rfl, rfl⟩)) ?_
           rintro σq ⟨H2, m2⟩
           exact ⟨_, (), rfl, ⟨H2.sel' [0] rfl rfl, m.comp m2⟩, stab [0, 1, 2, 3, 4, 5, 6, 7, 8, 9, 10, 11, 12] (by kernel_rfl) ⟨rfl, rfl, rfl, rfl, rfl, rfl, rfl, rfl, rfl, rfl, rfl, rfl, rfl, trivial⟩⟩
          trivial) ?_
        exact all_nil
       ·intro _nm ρ σ252 hJ hoff hrel
        have e0 : look 178 ρ 0 = (Sl adata_0 o140.1 cdata_0) := look_off (hoff 0 rfl) rfl
        have e13 : look 178 ρ 13 = (I o140.2) := look_off (hoff 13 rfl) rfl
        have e165 : look 178 ρ 165 = (Sl adata_0 o140.1 cdata_0) := hrel 2 rfl 165 rfl
        have e166 : look 178 ρ 166 = (I a_1) := hrel 3 rfl 166 rfl
        have e174 : look 178 ρ 174 = (.agg #[(I x240.1), (I x240.2)]) := hrel 11 rfl 174 rfl
        obtain ⟨H, -⟩ := (show Hp S0 σ0 σ252 [Ch.own 0 0 (Sl adata_0 o140.1 cdata_0) (o140.1.set o140.2.toNat (x233.1, x233.2))] ∧ Md (fun i => (cov []) i ∨ (fun b => blk (Sl adata_0 o140.1 cdata_0) = some b) i) σ231 σ252 from hJ)
        clear hJ Hs
        rw [fr_lookL (L := [(0, (Sl adata_0 o140.1 cdata_0)), (13, (I o140.2)), (165, (Sl adata_0 o140.1 cdata_0)), (166, (I a_1)), (174, (.agg #[(I x240.1), (I x240.2)]))]) ⟨e0, e13, e165, e166, e174, trivial⟩]
        clear hoff hrel e0 e13 e165 e166 e174
        have hsl : (Sl adata_0 o140.1 cdata_0) = (Sl adata_0 (o140.1.set o140.2.toNat (x233.1, x233.2)) cdata_0) := sl_len (by simp)
        rw [hsl]; rw [hsl] at H; clear hsl
        obtain ⟨x253, hx254, h'⟩ := bind_some h
        clear h
        have h := h'; clear h'
        obtain ⟨b256, o257, hi255, -⟩ := (H.own 0 rfl).ix hx254
        refine st (v := (pt b256 o257)) (rv_ix Try.underlying27 ti33 rfl rfl hi255) ?_
        refine st_exS (ex_store_own (e' := (x240.1, x240.2)) (vs := [(I x240.1), (I x240.2)]) (k := 0) H (i := 0) rfl ti33 hx254 hi255 rfl rfl rfl rfl rfl (Nat.le_of_ble_eq_true rfl) (by simp [plain]) (by rintro _ ⟨_, _, rfl, rfl, rfl⟩; exact ⟨[(I x240.1)], [(I x240.2)], rfl, rfl, rfl⟩)) (wanted_none _ rfl _) ?_
        rintro σ258 ⟨H, -⟩
        have hsl : (Sl adata_0 (o140.1.set o140.2.toNat (x233.1, x233.2)) cdata_0) = (Sl adata_0 ((o140.1.set o140.2.toNat (x233.1, x233.2)).set a_1.toNat (x240.1, x240.2)) cdata_0) := sl_len List.length_set.symm
        rw [hsl]; rw [hsl] at H; clear hsl
        refine w_end ?_
        refine q_then ?_
        refine c_seq ?_
        refine rg ?_
        refine st (v := (I o140.2)) (rv_move rfl) ?_
        refine st (v := (I o140.2)) (rv_assign rfl) ?_
        refine st (v := (B false)) (rv_assign rfl) ?_
        refine w_end ?_
        refine q_then ?_
        refine c_ret ?_
        obtain rfl := Option.some.inj h
        exact fin_ret (v := (.tuple #[(I o140.2), (B false)])) (results_ok Try.results141 (res_tmp (v := (I o140.2)) rfl (res_tmp (v := (B false)) rfl res_nil)) rfl) ⟨rfl, rfl, (List.length_set.trans (List.length_set.trans (hn232.trans (List.length_set.trans (List.length_set.trans (List.length_set.trans List.length_set))))))⟩ (H.sel' [0] rfl rfl)

end Go.Vs
