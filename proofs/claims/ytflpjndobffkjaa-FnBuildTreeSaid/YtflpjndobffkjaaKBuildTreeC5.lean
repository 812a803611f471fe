/- The functions compute what their models say. -/
import Derived.Test.YtflpjndobffkjaaKBuildTreeC4
set_option linter.unusedVariables false
set_option linter.unusedSimpArgs false
set_option maxRecDepth 20000
namespace Go.Vs
open Go Go.Proofs
attribute [local irreducible] Code.wp Code.wpIn wpList wpListIn wpQuiet Calls CallsIn

theorem c_slices_partitionEqualCmpFunc_impl_Item__impl_sortByDistance_1 {data_0 : List (Int × (List Int) × Int)} {a_1 : Int} {b_2 : Int} {pivot_3 : Int} {cmp_4_0 : Int} {cmp_4_1 : List Int} {adata_0 : Option Addr} {cdata_0 : Nat} {locmp_4_0 bcmp_4_0 ocmp_4_0 : Nat} {precmp_4_0 sufcmp_4_0 : List Value} {acmp_4_1 : Option Addr} {ccmp_4_1 : Nat} {locmp_4_1 bcmp_4_1 ocmp_4_1 : Nat} {precmp_4_1 sufcmp_4_1 : List Value} {r : Int × (List (Int × (List Int) × Int))} (h : M.slices_partitionEqualCmpFunc_impl_Item__impl_sortByDistance_1 data_0 a_1 b_2 pivot_3 cmp_4_0 cmp_4_1 = some r) :
    Cal2 Try.prog 118 [(Sl adata_0 data_0 cdata_0), (I a_1), (I b_2), (I pivot_3), (.func (.func 88) #[] #[(pt bcmp_4_0 ocmp_4_0), (pt bcmp_4_1 ocmp_4_1)])] [Ch.own 0 0 (Sl adata_0 data_0 cdata_0) data_0, Ch.bx locmp_4_0 bcmp_4_0 ocmp_4_0 [(I cmp_4_0)] precmp_4_0 sufcmp_4_0, Ch.bx locmp_4_1 bcmp_4_1 ocmp_4_1 [(Sl acmp_4_1 cmp_4_1 ccmp_4_1)] precmp_4_1 sufcmp_4_1, Ch.ro 0 (Sl acmp_4_1 cmp_4_1 ccmp_4_1) cmp_4_1] (fun n0 v L => v = (I r.1) ∧ L = [Ch.own 0 0 (Sl adata_0 r.2 cdata_0) r.2, Ch.bx locmp_4_0 bcmp_4_0 ocmp_4_0 [(I cmp_4_0)] precmp_4_0 sufcmp_4_0, Ch.bx locmp_4_1 bcmp_4_1 ocmp_4_1 [(Sl acmp_4_1 cmp_4_1 ccmp_4_1)] precmp_4_1 sufcmp_4_1] ∧ r.2.length = data_0.length) := by
 refine cal2 (n := 90) Try.func118 rfl rfl rfl rfl ?_
 intro S0 σ0 n0 hn0 H
 unfold M.slices_partitionEqualCmpFunc_impl_Item__impl_sortByDistance_1 at h
 refine c_seq ?_
 refine rg ?_
 refine st (v := (I 0)) (rv_assign rfl) ?_
 refine w_end ?_
 refine q_then ?_
 refine c_seq ?_
 obtain ⟨x1, hx2, h'⟩ := bind_some h
 clear h
 have h := h'; clear h'
 obtain ⟨b4, o5, hi3, -⟩ := (H.own 0 rfl).ix hx2
 obtain ⟨_, ⟨_, _, rfl, rfl, ⟨_, _, rfl, ⟨_, rfl, hR10⟩, rfl⟩⟩, hl6, hc7⟩ := ((H.own 0 rfl).at hx2 hi3).cells
 obtain ⟨a8, c9, rfl⟩ := hR10.isSl
 replace H := H.add (d := Ch.ro 0 (Sl a8 x1.2.1 c9) x1.2.1) hR10 (fun _ h => h)
 clear hR10
 obtain ⟨x11, hx12, h'⟩ := bind_some h
 clear h
 have h := h'; clear h'
 obtain ⟨b14, o15, hi13, -⟩ := (H.own 1 rfl).ix hx12
 obtain ⟨_, ⟨_, _, rfl, rfl, ⟨_, _, rfl, ⟨_, rfl, hR20⟩, rfl⟩⟩, hl16, hc17⟩ := ((H.own 1 rfl).at hx12 hi13).cells
 obtain ⟨a18, c19, rfl⟩ := hR20.isSl
 replace H := H.add (d := Ch.ro 0 (Sl a18 x11.2.1 c19) x11.2.1) hR20 (fun _ h => h)
 clear hR20
 obtain ⟨x21, hx22, h'⟩ := bind_some h
 clear h
 have h := h'; clear h'
 obtain ⟨b24, o25, hi23, -⟩ := (H.own 2 rfl).ix hx22
 have Hs := H
 refine rg2 (σ := σ0) (Nm := Unit) 14 [13] [[false], [true]] [[(0, 0)], [(0, 0)], [(0, 0), (1, 1)], [(0, 0), (1, 1)], [(0, 0)], [(0, 0)], [(0, 0)], [(0, 0)], [(0, 0)], [(0, 0)], [(0, 0)], [(0, 0)], [(0, 0)], [(0, 1)]] 1 [fun (_nm : Unit) => fun σm => Hp S0 σ0 σm [Ch.ro 0 (Sl a18 x11.2.1 c19) x11.2.1, Ch.ro 0 (Sl a8 x1.2.1 c9) x1.2.1, Ch.own 0 0 (Sl adata_0 data_0 cdata_0) data_0, Ch.bx locmp_4_0 bcmp_4_0 ocmp_4_0 [(I cmp_4_0)] precmp_4_0 sufcmp_4_0, Ch.bx locmp_4_1 bcmp_4_1 ocmp_4_1 [(Sl acmp_4_1 cmp_4_1 ccmp_4_1)] precmp_4_1 sufcmp_4_1, Ch.ro 0 (Sl acmp_4_1 cmp_4_1 ccmp_4_1) cmp_4_1] ∧ Md (cov []) σ0 σm, fun (_nm : Unit) => fun σm => Hp S0 σ0 σm [Ch.own 0 0 (Sl adata_0 data_0 cdata_0) (data_0.set a_1.toNat (x1.1, x1.2.1, x1.2.2)), Ch.ro 0 (Sl a18 x11.2.1 c19) x11.2.1, Ch.ro 0 (Sl a8 x1.2.1 c9) x1.2.1, Ch.bx locmp_4_0 bcmp_4_0 ocmp_4_0 [(I cmp_4_0)] precmp_4_0 sufcmp_4_0, Ch.bx locmp_4_1 bcmp_4_1 ocmp_4_1 [(Sl acmp_4_1 cmp_4_1 ccmp_4_1)] precmp_4_1 sufcmp_4_1, Ch.ro 0 (Sl acmp_4_1 cmp_4_1 ccmp_4_1) cmp_4_1] ∧ Md (fun i => (cov []) i ∨ (fun b => blk (Sl adata_0 data_0 cdata_0) = some b) i) σ0 σm] [fun (_nm : Unit) => (Sl adata_0 data_0 cdata_0), fun (_nm : Unit) => (I a_1), fun (_nm : Unit) => (Sl adata_0 data_0 cdata_0), fun (_nm : Unit) => (I pivot_3), fun (_nm : Unit) => (Sl adata_0 data_0 cdata_0), fun (_nm : Unit) => (I pivot_3), fun (_nm : Unit) => (pt b4 o5), fun (_nm : Unit) => (.agg #[(I x1.1), (Sl a8 x1.2.1 c9), (I x1.2.2)]), fun (_nm : Unit) => (Sl adata_0 data_0 cdata_0), fun (_nm : Unit) => (I a_1), fun (_nm : Unit) => (pt b14 o15), fun (_nm : Unit) => (.agg #[(I x11.1), (Sl a18 x11.2.1 c19), (I x11.2.2)]), fun (_nm : Unit) => (pt b24 o25), fun (_nm : Unit) => undef] () (by kernel_rfl) (by kernel_rfl) ?_ ?_ ?_
 ·intro σm m0
  exact ⟨H.grow (m0.mono fun _ h => h.elim), m0⟩
 ·refine all_cons (obs_v rfl (by
    intro k; intro _nm ρ σm hJ hoff hdep
    have e0 : look 90 ρ 0 = (Sl adata_0 data_0 cdata_0) := look_off (hoff 0 rfl) rfl
    exact dp_v (v := (Sl adata_0 data_0 cdata_0)) (wanted_none _ rfl _) (rv_move e0) rfl hJ)) ?_
  refine all_cons (obs_v rfl (by
    intro k; intro _nm ρ σm hJ hoff hdep
    have e1 : look 90 ρ 1 = (I a_1) := look_off (hoff 1 rfl) rfl
    exact dp_v (v := (I a_1)) (wanted_none _ rfl _) (rv_move e1) rfl hJ)) ?_
  refine all_cons (obs_v rfl (by
    intro k; intro _nm ρ σm hJ hoff hdep
    have e0 : look 90 ρ 0 = (Sl adata_0 data_0 cdata_0) := look_off (hoff 0 rfl) rfl
    exact dp_v (v := (Sl adata_0 data_0 cdata_0)) (wanted_none _ rfl _) (rv_move e0) rfl hJ)) ?_
  refine all_cons (obs_v rfl (by
    intro k; intro _nm ρ σm hJ hoff hdep
    have e3 : look 90 ρ 3 = (I pivot_3) := look_off (hoff 3 rfl) rfl
    exact dp_v (v := (I pivot_3)) (wanted_none _ rfl _) (rv_move e3) rfl hJ)) ?_
  refine all_cons (obs_v rfl (by
    intro k; intro _nm ρ σm hJ hoff hdep
    have e0 : look 90 ρ 0 = (Sl adata_0 data_0 cdata_0) := look_off (hoff 0 rfl) rfl
    exact dp_v (v := (Sl adata_0 data_0 cdata_0)) (wanted_none _ rfl _) (rv_move e0) rfl hJ)) ?_
  refine all_cons (obs_v rfl (by
    intro k; intro _nm ρ σm hJ hoff hdep
    have e3 : look 90 ρ 3 = (I pivot_3) := look_off (hoff 3 rfl) rfl
    exact dp_v (v := (I pivot_3)) (wanted_none _ rfl _) (rv_move e3) rfl hJ)) ?_
  refine all_cons (obs_v rfl (by
    intro k; intro _nm ρ σm hJ hoff hdep
    have e17 : look 90 ρ 17 = (Sl adata_0 data_0 cdata_0) := hdep 4 rfl rfl 17 rfl
    have e18 : look 90 ρ 18 = (I pivot_3) := hdep 5 rfl rfl 18 rfl
    exact dp_v (v := (pt b4 o5)) (wanted_none _ rfl _) (rv_ix Try.underlying23 ti34 e17 e18 hi3) rfl hJ)) ?_
  refine all_cons (by
    refine ⟨?_, ?_⟩
    ·intro _nm ρ σm hJ hoff hdep
     have e19 : look 90 ρ 19 = (pt b4 o5) := hdep 6 rfl rfl 19 rfl
     obtain ⟨H, m⟩ := id hJ
     replace hc7 := fun j hj => m.hcell (hc7 j hj) nocov
     exact dp_v (v := (.agg #[(I x1.1), (Sl a8 x1.2.1 c9), (I x1.2.2)])) (wanted_none _ rfl _) (rv_load Try.underlying34 rfl ti34 e19 hl6 hc7) rfl hJ
    trivial) ?_
  refine all_cons (obs_v rfl (by
    intro k; intro _nm ρ σm hJ hoff hdep
    have e0 : look 90 ρ 0 = (Sl adata_0 data_0 cdata_0) := look_off (hoff 0 rfl) rfl
    exact dp_v (v := (Sl adata_0 data_0 cdata_0)) (wanted_none _ rfl _) (rv_move e0) rfl hJ)) ?_
  refine all_cons (obs_v rfl (by
    intro k; intro _nm ρ σm hJ hoff hdep
    have e1 : look 90 ρ 1 = (I a_1) := look_off (hoff 1 rfl) rfl
    exact dp_v (v := (I a_1)) (wanted_none _ rfl _) (rv_move e1) rfl hJ)) ?_
  refine all_cons (obs_v rfl (by
    intro k; intro _nm ρ σm hJ hoff hdep
    have e21 : look 90 ρ 21 = (Sl adata_0 data_0 cdata_0) := hdep 8 rfl rfl 21 rfl
    have e22 : look 90 ρ 22 = (I a_1) := hdep 9 rfl rfl 22 rfl
    exact dp_v (v := (pt b14 o15)) (wanted_none _ rfl _) (rv_ix Try.underlying23 ti34 e21 e22 hi13) rfl hJ)) ?_
  refine all_cons (by
    refine ⟨?_, ?_⟩
    ·intro _nm ρ σm hJ hoff hdep
     have e23 : look 90 ρ 23 = (pt b14 o15) := hdep 10 rfl rfl 23 rfl
     obtain ⟨H, m⟩ := id hJ
     replace hc17 := fun j hj => m.hcell (hc17 j hj) nocov
     exact dp_v (v := (.agg #[(I x11.1), (Sl a18 x11.2.1 c19), (I x11.2.2)])) (wanted_none _ rfl _) (rv_load Try.underlying34 rfl ti34 e23 hl16 hc17) rfl hJ
    trivial) ?_
  refine all_cons (obs_v rfl (by
    intro k; intro _nm ρ σm hJ hoff hdep
    have e13 : look 90 ρ 13 = (Sl adata_0 data_0 cdata_0) := hdep 0 rfl rfl 13 rfl
    have e14 : look 90 ρ 14 = (I a_1) := hdep 1 rfl rfl 14 rfl
    exact dp_v (v := (pt b24 o25)) (wanted_none _ rfl _) (rv_ix Try.underlying23 ti34 e13 e14 hi23) rfl hJ)) ?_
  refine all_cons (by
    refine ⟨?_, ?_⟩
    ·intro _nm ρ σm hJ hoff hdep
     have e25 : look 90 ρ 25 = (pt b24 o25) := hdep 12 rfl rfl 25 rfl
     have e20 : look 90 ρ 20 = (.agg #[(I x1.1), (Sl a8 x1.2.1 c9), (I x1.2.2)]) := hdep 7 rfl rfl 20 rfl
     obtain ⟨H, m⟩ := id hJ
     refine dp_exS (wanted_none _ rfl _) rfl (ex_store_own (e' := (x1.1, x1.2.1, x1.2.2)) (vs := [(I x1.1), (Sl a8 x1.2.1 c9), (I x1.2.2)]) (k := 0) H (i := 2) rfl ti34 hx22 hi23 e25 rfl e20 rfl rfl (Nat.le_of_ble_eq_true rfl) (by simp [plain]) (by rintro _ ⟨_, _, rfl, rfl, ⟨_, _, rfl, ⟨_, rfl, hR28⟩, rfl⟩⟩; exact ⟨[(I x1.1)], [(Sl a8 x1.2.1 c9), (I x1.2.2)], rfl, rfl, ⟨[(Sl a8 x1.2.1 c9)], [(I x1.2.2)], rfl, ⟨_, rfl, (H.ro 1 rfl)⟩, rfl⟩⟩)) ?_
     rintro σq ⟨H2, m2⟩
     exact ⟨_, (), rfl, ⟨H2.sel' [0, 1, 2, 3, 4, 5] rfl rfl, m.comp m2⟩, stab [0, 1, 2, 3, 4, 5, 6, 7, 8, 9, 10, 11, 12] (by kernel_rfl) ⟨rfl, rfl, rfl, rfl, rfl, rfl, rfl, rfl, rfl, rfl, rfl, rfl, rfl, trivial⟩⟩
    trivial) ?_
  exact all_nil
 ·intro _nm ρ σ29 hJ hoff hrel
  have e0 : look 90 ρ 0 = (Sl adata_0 data_0 cdata_0) := look_off (hoff 0 rfl) rfl
  have e1 : look 90 ρ 1 = (I a_1) := look_off (hoff 1 rfl) rfl
  have e2 : look 90 ρ 2 = (I b_2) := look_off (hoff 2 rfl) rfl
  have e4 : look 90 ρ 4 = (.func (.func 88) #[] #[(pt bcmp_4_0 ocmp_4_0), (pt bcmp_4_1 ocmp_4_1)]) := look_off (hoff 4 rfl) rfl
  have e15 : look 90 ρ 15 = (Sl adata_0 data_0 cdata_0) := hrel 2 rfl 15 rfl
  have e16 : look 90 ρ 16 = (I pivot_3) := hrel 3 rfl 16 rfl
  have e24 : look 90 ρ 24 = (.agg #[(I x11.1), (Sl a18 x11.2.1 c19), (I x11.2.2)]) := hrel 11 rfl 24 rfl
  obtain ⟨H, -⟩ := (show Hp S0 σ0 σ29 [Ch.own 0 0 (Sl adata_0 data_0 cdata_0) (data_0.set a_1.toNat (x1.1, x1.2.1, x1.2.2)), Ch.ro 0 (Sl a18 x11.2.1 c19) x11.2.1, Ch.ro 0 (Sl a8 x1.2.1 c9) x1.2.1, Ch.bx locmp_4_0 bcmp_4_0 ocmp_4_0 [(I cmp_4_0)] precmp_4_0 sufcmp_4_0, Ch.bx locmp_4_1 bcmp_4_1 ocmp_4_1 [(Sl acmp_4_1 cmp_4_1 ccmp_4_1)] precmp_4_1 sufcmp_4_1, Ch.ro 0 (Sl acmp_4_1 cmp_4_1 ccmp_4_1) cmp_4_1] ∧ Md (fun i => (cov []) i ∨ (fun b => blk (Sl adata_0 data_0 cdata_0) = some b) i) σ0 σ29 from hJ)
  clear hJ Hs
  rw [fr_lookL (L := [(0, (Sl adata_0 data_0 cdata_0)), (1, (I a_1)), (2, (I b_2)), (4, (.func (.func 88) #[] #[(pt bcmp_4_0 ocmp_4_0), (pt bcmp_4_1 ocmp_4_1)])), (15, (Sl adata_0 data_0 cdata_0)), (16, (I pivot_3)), (24, (.agg #[(I x11.1), (Sl a18 x11.2.1 c19), (I x11.2.2)]))]) ⟨e0, e1, e2, e4, e15, e16, e24, trivial⟩]
  clear hoff hrel e0 e1 e2 e4 e15 e16 e24
  have hsl : (Sl adata_0 data_0 cdata_0) = (Sl adata_0 (data_0.set a_1.toNat (x1.1, x1.2.1, x1.2.2)) cdata_0) := sl_len (by simp)
  rw [hsl]; rw [hsl] at H; clear hsl
  obtain ⟨x30, hx31, h'⟩ := bind_some h
  clear h
  have h := h'; clear h'
  obtain ⟨b33, o34, hi32, -⟩ := (H.own 0 rfl).ix hx31
  refine st (v := (pt b33 o34)) (rv_ix Try.underlying23 ti34 rfl rfl hi32) ?_
  refine st_exS (ex_store_own (e' := (x11.1, x11.2.1, x11.2.2)) (vs := [(I x11.1), (Sl a18 x11.2.1 c19), (I x11.2.2)]) (k := 0) H (i := 0) rfl ti34 hx31 hi32 rfl rfl rfl rfl rfl (Nat.le_of_ble_eq_true rfl) (by simp [plain]) (by rintro _ ⟨_, _, rfl, rfl, ⟨_, _, rfl, ⟨_, rfl, hR37⟩, rfl⟩⟩; exact ⟨[(I x11.1)], [(Sl a18 x11.2.1 c19), (I x11.2.2)], rfl, rfl, ⟨[(Sl a18 x11.2.1 c19)], [(I x11.2.2)], rfl, ⟨_, rfl, (H.ro 1 rfl)⟩, rfl⟩⟩)) (wanted_none _ rfl _) ?_
  rintro σ38 ⟨H, -⟩
  have hsl : (Sl adata_0 (data_0.set a_1.toNat (x1.1, x1.2.1, x1.2.2)) cdata_0) = (Sl adata_0 ((data_0.set a_1.toNat (x1.1, x1.2.1, x1.2.2)).set pivot_3.toNat (x11.1, x11.2.1, x11.2.2)) cdata_0) := sl_len List.length_set.symm
  rw [hsl]; rw [hsl] at H; clear hsl
  refine w_end ?_
  refine q_then ?_
  refine c_seq ?_
  refine rg ?_
  refine st (v := (I a_1)) (rv_move rfl) ?_
  refine st (v := (I (w64 (a_1 + 1)))) (rv_add (a := a_1) (b := 1) rfl rfl) ?_
  refine st (v := (I b_2)) (rv_move rfl) ?_
  refine st (v := (I (w64 (b_2 - 1)))) (rv_sub (a := b_2) (b := 1) rfl rfl) ?_
  refine st (v := (I (w64 (a_1 + 1)))) (rv_assign rfl) ?_
  refine st (v := (I (w64 (b_2 - 1)))) (rv_assign rfl) ?_
  refine w_end ?_
  refine q_then ?_
  refine c_seq ?_
  obtain ⟨o39, hj, h'⟩ := bind_some h
  clear h
  refine c_cut (fun e a w => e = .normal ∧ ∃ (ρ : Nat → Value) (σ : St), a = fr 90 (updL ρ [(0, (Sl adata_0 o39.1 cdata_0)), (4, (.func (.func 88) #[] #[(pt bcmp_4_0 ocmp_4_0), (pt bcmp_4_1 ocmp_4_1)])), (11, (I o39.2))]) ∧ w = σ.w ∧ Hp S0 σ0 σ [Ch.own 0 0 (Sl adata_0 o39.1 cdata_0) o39.1, Ch.bx locmp_4_0 bcmp_4_0 ocmp_4_0 [(I cmp_4_0)] precmp_4_0 sufcmp_4_0, Ch.ro 0 (Sl acmp_4_1 cmp_4_1 ccmp_4_1) cmp_4_1, Ch.bx locmp_4_1 bcmp_4_1 ocmp_4_1 [(Sl acmp_4_1 cmp_4_1 ccmp_4_1)] precmp_4_1 sufcmp_4_1] ∧ o39.1.length = ((data_0.set a_1.toNat (x1.1, x1.2.1, x1.2.2)).set pivot_3.toNat (x11.1, x11.2.1, x11.2.2)).length) ?_ ?_
  ·clear h'
   rename _ = some o39 => h
   refine c_blk ?_
   refine wp_loopM _ h (fun s40 a w => ∃ (ρ : Nat → Value) (σ : St), a = fr 90 (updL ρ [(0, (Sl adata_0 s40.1 cdata_0)), (1, (I a_1)), (4, (.func (.func 88) #[] #[(pt bcmp_4_0 ocmp_4_0), (pt bcmp_4_1 ocmp_4_1)])), (11, (I s40.2.1)), (12, (I s40.2.2))]) ∧ w = σ.w ∧ Hp S0 σ0 σ [Ch.own 0 0 (Sl adata_0 s40.1 cdata_0) s40.1, Ch.bx locmp_4_0 bcmp_4_0 ocmp_4_0 [(I cmp_4_0)] precmp_4_0 sufcmp_4_0, Ch.ro 0 (Sl acmp_4_1 cmp_4_1 ccmp_4_1) cmp_4_1, Ch.bx locmp_4_1 bcmp_4_1 ocmp_4_1 [(Sl acmp_4_1 cmp_4_1 ccmp_4_1)] precmp_4_1 sufcmp_4_1] ∧ s40.1.length = ((data_0.set a_1.toNat (x1.1, x1.2.1, x1.2.2)).set pivot_3.toNat (x11.1, x11.2.1, x11.2.2)).length) ⟨_, σ38, fr_join ⟨rfl, rfl, rfl, rfl, rfl, trivial⟩, rfl, H.sel' [0, 3, 5, 4] rfl rfl, rfl⟩ ?_
   clear h H
   rintro s40 a w o ⟨ρ, σ41, rfl, rfl, H, hn42⟩ h hres
   refine c_blk ?_
   refine c_seq ?_
   obtain ⟨o43, hj, h'⟩ := bind_some h
   clear h
   refine c_cut (fun e a w => e = .normal ∧ ∃ (ρ : Nat → Value) (σ : St), a = fr 90 (updL ρ [(0, (Sl adata_0 s40.1 cdata_0)), (1, (I a_1)), (4, (.func (.func 88) #[] #[(pt bcmp_4_0 ocmp_4_0), (pt bcmp_4_1 ocmp_4_1)])), (11, (I o43)), (12, (I s40.2.2))]) ∧ w = σ.w ∧ Hp S0 σ0 σ [Ch.own 0 0 (Sl adata_0 s40.1 cdata_0) s40.1, Ch.bx locmp_4_0 bcmp_4_0 ocmp_4_0 [(I cmp_4_0)] precmp_4_0 sufcmp_4_0, Ch.ro 0 (Sl acmp_4_1 cmp_4_1 ccmp_4_1) cmp_4_1, Ch.bx locmp_4_1 bcmp_4_1 ocmp_4_1 [(Sl acmp_4_1 cmp_4_1 ccmp_4_1)] precmp_4_1 sufcmp_4_1]) ?_ ?_
   ·clear h'
    rename _ = some o43 => h
    refine c_blk ?_
    refine wp_loopM _ h (fun s44 a w => ∃ (ρ : Nat → Value) (σ : St), a = fr 90 (updL ρ [(0, (Sl adata_0 s40.1 cdata_0)), (1, (I a_1)), (4, (.func (.func 88) #[] #[(pt bcmp_4_0 ocmp_4_0), (pt bcmp_4_1 ocmp_4_1)])), (11, (I s44)), (12, (I s40.2.2))]) ∧ w = σ.w ∧ Hp S0 σ0 σ [Ch.own 0 0 (Sl adata_0 s40.1 cdata_0) s40.1, Ch.bx locmp_4_0 bcmp_4_0 ocmp_4_0 [(I cmp_4_0)] precmp_4_0 sufcmp_4_0, Ch.ro 0 (Sl acmp_4_1 cmp_4_1 ccmp_4_1) cmp_4_1, Ch.bx locmp_4_1 bcmp_4_1 ocmp_4_1 [(Sl acmp_4_1 cmp_4_1 ccmp_4_1)] precmp_4_1 sufcmp_4_1]) ⟨_, σ41, fr_join ⟨rfl, rfl, rfl, rfl, rfl, trivial⟩, rfl, H.sel' [0, 1, 2, 3] rfl rfl⟩ ?_
    clear h H
    rintro s44 a w o ⟨ρ, σ45, rfl, rfl, H⟩ h hres
    refine c_seq ?_
    refine c_seq ?_
    obtain ⟨o46, hj, h'⟩ := bind_some h
    clear h
    refine c_cut (fun e a w => e = .normal ∧ ∃ (ρ : Nat → Value) (σ : St), a = fr 90 (updL ρ [(0, (Sl adata_0 s40.1 cdata_0)), (1, (I a_1)), (4, (.func (.func 88) #[] #[(pt bcmp_4_0 ocmp_4_0), (pt bcmp_4_1 ocmp_4_1)])), (11, (I s44)), (12, (I s40.2.2)), (47, (B o46))]) ∧ w = σ.w ∧ Hp S0 σ0 σ [Ch.own 0 0 (Sl adata_0 s40.1 cdata_0) s40.1, Ch.bx locmp_4_0 bcmp_4_0 ocmp_4_0 [(I cmp_4_0)] precmp_4_0 sufcmp_4_0, Ch.ro 0 (Sl acmp_4_1 cmp_4_1 ccmp_4_1) cmp_4_1, Ch.bx locmp_4_1 bcmp_4_1 ocmp_4_1 [(Sl acmp_4_1 cmp_4_1 ccmp_4_1)] precmp_4_1 sufcmp_4_1]) ?_ ?_
    ·clear h'
     rename _ = some o46 => h
     refine rgP (σ := σ45) 13 (by kernel_rfl) (by kernel_rfl) (by kernel_rfl) ?_
     refine sq (v := (I s44)) (rv_move rfl) ?_
     refine sq (v := (I s40.2.2)) (rv_move rfl) ?_
     refine sq (v := (B (decide (s44 ≤ s40.2.2)))) (rv_leq (a := s44) (b := s40.2.2) rfl rfl) ?_
     refine sq (v := (B (decide (s44 ≤ s40.2.2)))) (rv_move rfl) ?_
     rcases Bool.eq_false_or_eq_true (decide (s44 ≤ s40.2.2)) with hb47 | hb47
     ·replace h := bif_t hb47 h
      refine sq_g (v := (.func (.func 88) #[] #[(pt bcmp_4_0 ocmp_4_0), (pt bcmp_4_1 ocmp_4_1)])) (congrArg some hb47) (rv_move rfl) ?_
      refine sq_g (v := (Sl adata_0 s40.1 cdata_0)) (congrArg some hb47) (rv_move rfl) ?_
      refine sq_g (v := (I a_1)) (congrArg some hb47) (rv_move rfl) ?_
      obtain ⟨x48, hx49, h'⟩ := bind_some h
      clear h
      have h := h'; clear h'
      obtain ⟨b51, o52, hi50, -⟩ := (H.own 0 rfl).ix hx49
      refine sq_g (v := (pt b51 o52)) (congrArg some hb47) (rv_ix Try.underlying23 ti34 rfl rfl hi50) ?_
      obtain ⟨_, ⟨_, _, rfl, rfl, ⟨_, _, rfl, ⟨_, rfl, hR57⟩, rfl⟩⟩, hl53, hc54⟩ := ((H.own 0 rfl).at hx49 hi50).cells
      obtain ⟨a55, c56, rfl⟩ := hR57.isSl
      replace H := H.add (d := Ch.ro 0 (Sl a55 x48.2.1 c56) x48.2.1) hR57 (fun _ h => h)
      clear hR57
      refine sq_g (v := (.agg #[(I x48.1), (Sl a55 x48.2.1 c56), (I x48.2.2)])) (congrArg some hb47) (rv_load Try.underlying34 rfl ti34 rfl hl53 hc54) ?_
      refine sq_g (v := (Sl adata_0 s40.1 cdata_0)) (congrArg some hb47) (rv_move rfl) ?_
      refine sq_g (v := (I s44)) (congrArg some hb47) (rv_move rfl) ?_
      obtain ⟨x58, hx59, h'⟩ := bind_some h
      clear h
      have h := h'; clear h'
      obtain ⟨b61, o62, hi60, -⟩ := (H.own 1 rfl).ix hx59
      refine sq_g (v := (pt b61 o62)) (congrArg some hb47) (rv_ix Try.underlying23 ti34 rfl rfl hi60) ?_
      obtain ⟨_, ⟨_, _, rfl, rfl, ⟨_, _, rfl, ⟨_, rfl, hR67⟩, rfl⟩⟩, hl63, hc64⟩ := ((H.own 1 rfl).at hx59 hi60).cells
      obtain ⟨a65, c66, rfl⟩ := hR67.isSl
      replace H := H.add (d := Ch.ro 0 (Sl a65 x58.2.1 c66) x58.2.1) hR67 (fun _ h => h)
      clear hR67
      refine sq_g (v := (.agg #[(I x58.1), (Sl a65 x58.2.1 c66), (I x58.2.2)])) (congrArg some hb47) (rv_load Try.underlying34 rfl ti34 rfl hl63 hc64) ?_
      refine sq_end ?_
      intro σ68 hm69
      replace H := H.grow (hm69.mono fun _ h => h); clear hm69
      obtain ⟨r70, hx71, h'⟩ := bind_some h
      clear h
      have h := h'; clear h'
      have hc72 := c_impl_sortByDistance_1__p3__p24 (ax_0_1 := a55) (cx_0_1 := c56) (ay_1_1 := a65) (cy_1_1 := c66) (lop_2 := locmp_4_0) (bp_2 := bcmp_4_0) (op_2 := ocmp_4_0) (prep_2 := precmp_4_0) (sufp_2 := sufcmp_4_0) (lop_3 := locmp_4_1) (bp_3 := bcmp_4_1) (op_3 := ocmp_4_1) (prep_3 := precmp_4_1) (sufp_3 := sufcmp_4_1) (ap_3 := acmp_4_1) (cp_3 := ccmp_4_1) hx71
      refine st_call (cx_call hc72 (ent_v (cap := [(pt bcmp_4_0 ocmp_4_0), (pt bcmp_4_1 ocmp_4_1)]) hc72.fn rfl rfl) hn0 (H.sel' [1, 0, 3, 5, 4, 0, 1, 2, 4] rfl rfl : Hp S0 σ0 _ ([_, _, _, _, _] ++ _))) (wanted_yes rfl (by exact (congrArg some hb47))) ?_
      rintro _ σ73 ⟨_, ⟨rfl, rfl⟩, H, -⟩
      replace H : Hp S0 σ0 σ73 [Ch.bx locmp_4_0 bcmp_4_0 ocmp_4_0 [(I cmp_4_0)] precmp_4_0 sufcmp_4_0, Ch.bx locmp_4_1 bcmp_4_1 ocmp_4_1 [(Sl acmp_4_1 cmp_4_1 ccmp_4_1)] precmp_4_1 sufcmp_4_1, Ch.ro 0 (Sl a65 x58.2.1 c66) x58.2.1, Ch.ro 0 (Sl a55 x48.2.1 c56) x48.2.1, Ch.own 0 0 (Sl adata_0 s40.1 cdata_0) s40.1, Ch.ro 0 (Sl acmp_4_1 cmp_4_1 ccmp_4_1) cmp_4_1] := H
      refine st_g (v := (B (decide (r70 < 0)))) (congrArg some hb47) (rv_lss (a := r70) (b := 0) rfl rfl) ?_
      refine st_g (v := (B (!(decide (r70 < 0))))) (congrArg some hb47) (rv_not rfl) ?_
      refine st (v := (B (!(decide (r70 < 0))))) (rv_pick_t (congrArg B hb47) rfl) ?_
      refine w_end ?_
      obtain rfl := Option.some.inj h
      exact ⟨rfl, _, σ73, fr_join ⟨rfl, rfl, rfl, rfl, rfl, rfl, trivial⟩, rfl, H.sel' [4, 0, 5, 1] rfl rfl⟩
     ·replace h := bif_f hb47 h
      refine sq_skip (congrArg some hb47) ?_
      refine sq_skip (congrArg some hb47) ?_
      refine sq_skip (congrArg some hb47) ?_
      refine sq_skip (congrArg some hb47) ?_
      refine sq_skip (congrArg some hb47) ?_
      refine sq_skip (congrArg some hb47) ?_
      refine sq_skip (congrArg some hb47) ?_
      refine sq_skip (congrArg some hb47) ?_
      refine sq_skip (congrArg some hb47) ?_
      refine sq_end ?_
      intro σ74 hm75
      replace H := H.grow (hm75.mono fun _ h => h); clear hm75
      refine st_skip (congrArg some hb47) ?_
      refine st_skip (congrArg some hb47) ?_
      refine st_skip (congrArg some hb47) ?_
      refine st (v := (B false)) (rv_pick_f (congrArg B hb47) rfl) ?_
      refine w_end ?_
      obtain rfl := Option.some.inj h
      exact ⟨rfl, _, σ74, fr_join ⟨rfl, rfl, rfl, rfl, rfl, rfl, trivial⟩, rfl, H.sel' [0, 1, 2, 3] rfl rfl⟩
    ·clear hj
     have h := h'
     clear h' H
     rintro e a w ⟨rfl, ρ, σ76, rfl, rfl, H⟩
     refine q_then ?_
     refine cd_cond o46 rfl (fun hb77 => ?_) (fun hb77 => ?_)
     ·replace h := bif_t hb77 h
      refine c_skip ?_
      refine q_then ?_
      refine c_blk ?_
      refine rg ?_
      refine st (v := (I s44)) (rv_move rfl) ?_
      refine st (v := (I (w64 (s44 + 1)))) (rv_add (a := s44) (b := 1) rfl rfl) ?_
      refine st (v := (I (w64 (s44 + 1)))) (rv_assign rfl) ?_
      refine w_end ?_
      refine q_blk ?_
      refine q_then ?_
      obtain rfl := Option.some.inj h
      exact ⟨_, rfl, _, σ76, fr_join ⟨rfl, rfl, rfl, rfl, rfl, trivial⟩, rfl, H.sel' [0, 1, 2, 3] rfl rfl⟩
     ·replace h := bif_f hb77 h
      refine c_exit ?_
      refine q_then_x ?_
      refine q_then_x ?_
      refine q_blk_hit ?_
      obtain rfl := Option.some.inj h
      obtain rfl := hres _ rfl
      exact ⟨rfl, _, σ76, fr_join ⟨rfl, rfl, rfl, rfl, rfl, trivial⟩, rfl, H.sel' [0, 1, 2, 3] rfl rfl⟩
   ·clear hj
    have h := h'
    clear h' H
    rintro e a w ⟨rfl, ρ, σ78, rfl, rfl, H⟩
    refine q_then ?_
    refine c_seq ?_
    obtain ⟨o79, hj, h'⟩ := bind_some h
    clear h
    refine c_cut (fun e a w => e = .normal ∧ ∃ (ρ : Nat → Value) (σ : St), a = fr 90 (updL ρ [(0, (Sl adata_0 s40.1 cdata_0)), (1, (I a_1)), (4, (.func (.func 88) #[] #[(pt bcmp_4_0 ocmp_4_0), (pt bcmp_4_1 ocmp_4_1)])), (11, (I o43)), (12, (I o79))]) ∧ w = σ.w ∧ Hp S0 σ0 σ [Ch.own 0 0 (Sl adata_0 s40.1 cdata_0) s40.1, Ch.bx locmp_4_0 bcmp_4_0 ocmp_4_0 [(I cmp_4_0)] precmp_4_0 sufcmp_4_0, Ch.ro 0 (Sl acmp_4_1 cmp_4_1 ccmp_4_1) cmp_4_1, Ch.bx locmp_4_1 bcmp_4_1 ocmp_4_1 [(Sl acmp_4_1 cmp_4_1 ccmp_4_1)] precmp_4_1 sufcmp_4_1]) ?_ ?_
    ·clear h'
     rename _ = some o79 => h
     refine c_blk ?_
     refine wp_loopM _ h (fun s80 a w => ∃ (ρ : Nat → Value) (σ : St), a = fr 90 (updL ρ [(0, (Sl adata_0 s40.1 cdata_0)), (1, (I a_1)), (4, (.func (.func 88) #[] #[(pt bcmp_4_0 ocmp_4_0), (pt bcmp_4_1 ocmp_4_1)])), (11, (I o43)), (12, (I s80))]) ∧ w = σ.w ∧ Hp S0 σ0 σ [Ch.own 0 0 (Sl adata_0 s40.1 cdata_0) s40.1, Ch.bx locmp_4_0 bcmp_4_0 ocmp_4_0 [(I cmp_4_0)] precmp_4_0 sufcmp_4_0, Ch.ro 0 (Sl acmp_4_1 cmp_4_1 ccmp_4_1) cmp_4_1, Ch.bx locmp_4_1 bcmp_4_1 ocmp_4_1 [(Sl acmp_4_1 cmp_4_1 ccmp_4_1)] precmp_4_1 sufcmp_4_1]) ⟨_, σ78, fr_join ⟨rfl, rfl, rfl, rfl, rfl, trivial⟩, rfl, H.sel' [0, 1, 2, 3] rfl rfl⟩ ?_
     clear h H
     rintro s80 a w o ⟨ρ, σ81, rfl, rfl, H⟩ h hres
     refine c_seq ?_
     refine c_seq ?_
     obtain ⟨o82, hj, h'⟩ := bind_some h
     clear h
     refine c_cut (fun e a w => e = .normal ∧ ∃ (ρ : Nat → Value) (σ : St), a = fr 90 (updL ρ [(0, (Sl adata_0 s40.1 cdata_0)), (1, (I a_1)), (4, (.func (.func 88) #[] #[(pt bcmp_4_0 ocmp_4_0), (pt bcmp_4_1 ocmp_4_1)])), (11, (I o43)), (12, (I s80)), (65, (B o82))]) ∧ w = σ.w ∧ Hp S0 σ0 σ [Ch.own 0 0 (Sl adata_0 s40.1 cdata_0) s40.1, Ch.bx locmp_4_0 bcmp_4_0 ocmp_4_0 [(I cmp_4_0)] precmp_4_0 sufcmp_4_0, Ch.ro 0 (Sl acmp_4_1 cmp_4_1 ccmp_4_1) cmp_4_1, Ch.bx locmp_4_1 bcmp_4_1 ocmp_4_1 [(Sl acmp_4_1 cmp_4_1 ccmp_4_1)] precmp_4_1 sufcmp_4_1]) ?_ ?_
     ·clear h'
      rename _ = some o82 => h
      refine rgP (σ := σ81) 13 (by kernel_rfl) (by kernel_rfl) (by kernel_rfl) ?_
      refine sq (v := (I o43)) (rv_move rfl) ?_
      refine sq (v := (I s80)) (rv_move rfl) ?_
      refine sq (v := (B (decide (o43 ≤ s80)))) (rv_leq (a := o43) (b := s80) rfl rfl) ?_
      refine sq (v := (B (decide (o43 ≤ s80)))) (rv_move rfl) ?_
      rcases Bool.eq_false_or_eq_true (decide (o43 ≤ s80)) with hb83 | hb83
      ·replace h := bif_t hb83 h
       refine sq_g (v := (.func (.func 88) #[] #[(pt bcmp_4_0 ocmp_4_0), (pt bcmp_4_1 ocmp_4_1)])) (congrArg some hb83) (rv_move rfl) ?_
       refine sq_g (v := (Sl adata_0 s40.1 cdata_0)) (congrArg some hb83) (rv_move rfl) ?_
       refine sq_g (v := (I a_1)) (congrArg some hb83) (rv_move rfl) ?_
       obtain ⟨x84, hx85, h'⟩ := bind_some h
       clear h
       have h := h'; clear h'
       obtain ⟨b87, o88, hi86, -⟩ := (H.own 0 rfl).ix hx85
       refine sq_g (v := (pt b87 o88)) (congrArg some hb83) (rv_ix Try.underlying23 ti34 rfl rfl hi86) ?_
       obtain ⟨_, ⟨_, _, rfl, rfl, ⟨_, _, rfl, ⟨_, rfl, hR93⟩, rfl⟩⟩, hl89, hc90⟩ := ((H.own 0 rfl).at hx85 hi86).cells
       obtain ⟨a91, c92, rfl⟩ := hR93.isSl
       replace H := H.add (d := Ch.ro 0 (Sl a91 x84.2.1 c92) x84.2.1) hR93 (fun _ h => h)
       clear hR93
       refine sq_g (v := (.agg #[(I x84.1), (Sl a91 x84.2.1 c92), (I x84.2.2)])) (congrArg some hb83) (rv_load Try.underlying34 rfl ti34 rfl hl89 hc90) ?_
       refine sq_g (v := (Sl adata_0 s40.1 cdata_0)) (congrArg some hb83) (rv_move rfl) ?_
       refine sq_g (v := (I s80)) (congrArg some hb83) (rv_move rfl) ?_
       obtain ⟨x94, hx95, h'⟩ := bind_some h
       clear h
       have h := h'; clear h'
       obtain ⟨b97, o98, hi96, -⟩ := (H.own 1 rfl).ix hx95
       refine sq_g (v := (pt b97 o98)) (congrArg some hb83) (rv_ix Try.underlying23 ti34 rfl rfl hi96) ?_
       obtain ⟨_, ⟨_, _, rfl, rfl, ⟨_, _, rfl, ⟨_, rfl, hR103⟩, rfl⟩⟩, hl99, hc100⟩ := ((H.own 1 rfl).at hx95 hi96).cells
       obtain ⟨a101, c102, rfl⟩ := hR103.isSl
       replace H := H.add (d := Ch.ro 0 (Sl a101 x94.2.1 c102) x94.2.1) hR103 (fun _ h => h)
       clear hR103
       refine sq_g (v := (.agg #[(I x94.1), (Sl a101 x94.2.1 c102), (I x94.2.2)])) (congrArg some hb83) (rv_load Try.underlying34 rfl ti34 rfl hl99 hc100) ?_
       refine sq_end ?_
       intro σ104 hm105
       replace H := H.grow (hm105.mono fun _ h => h); clear hm105
       obtain ⟨r106, hx107, h'⟩ := bind_some h
       clear h
       have h := h'; clear h'
       have hc108 := c_impl_sortByDistance_1__p3__p24 (ax_0_1 := a91) (cx_0_1 := c92) (ay_1_1 := a101) (cy_1_1 := c102) (lop_2 := locmp_4_0) (bp_2 := bcmp_4_0) (op_2 := ocmp_4_0) (prep_2 := precmp_4_0) (sufp_2 := sufcmp_4_0) (lop_3 := locmp_4_1) (bp_3 := bcmp_4_1) (op_3 := ocmp_4_1) (prep_3 := precmp_4_1) (sufp_3 := sufcmp_4_1) (ap_3 := acmp_4_1) (cp_3 := ccmp_4_1) hx107
       refine st_call (cx_call hc108 (ent_v (cap := [(pt bcmp_4_0 ocmp_4_0), (pt bcmp_4_1 ocmp_4_1)]) hc108.fn rfl rfl) hn0 (H.sel' [1, 0, 3, 5, 4, 0, 1, 2, 4] rfl rfl : Hp S0 σ0 _ ([_, _, _, _, _] ++ _))) (wanted_yes rfl (by exact (congrArg some hb83))) ?_
       rintro _ σ109 ⟨_, ⟨rfl, rfl⟩, H, -⟩
       replace H : Hp S0 σ0 σ109 [Ch.bx locmp_4_0 bcmp_4_0 ocmp_4_0 [(I cmp_4_0)] precmp_4_0 sufcmp_4_0, Ch.bx locmp_4_1 bcmp_4_1 ocmp_4_1 [(Sl acmp_4_1 cmp_4_1 ccmp_4_1)] precmp_4_1 sufcmp_4_1, Ch.ro 0 (Sl a101 x94.2.1 c102) x94.2.1, Ch.ro 0 (Sl a91 x84.2.1 c92) x84.2.1, Ch.own 0 0 (Sl adata_0 s40.1 cdata_0) s40.1, Ch.ro 0 (Sl acmp_4_1 cmp_4_1 ccmp_4_1) cmp_4_1] := H
       refine st_g (v := (B (decide (r106 < 0)))) (congrArg some hb83) (rv_lss (a := r106) (b := 0) rfl rfl) ?_
       refine st (v := (B (decide (r106 < 0)))) (rv_pick_t (congrArg B hb83) rfl) ?_
       refine w_end ?_
       obtain rfl := Option.some.inj h
       exact ⟨rfl, _, σ109, fr_join ⟨rfl, rfl, rfl, rfl, rfl, rfl, trivial⟩, rfl, H.sel' [4, 0, 5, 1] rfl rfl⟩
      ·replace h := bif_f hb83 h
       refine sq_skip (congrArg some hb83) ?_
       refine sq_skip (congrArg some hb83) ?_
       refine sq_skip (congrArg some hb83) ?_
       refine sq_skip (congrArg some hb83) ?_
       refine sq_skip (congrArg some hb83) ?_
       refine sq_skip (congrArg some hb83) ?_
       refine sq_skip (congrArg some hb83) ?_
       refine sq_skip (congrArg some hb83) ?_
       refine sq_skip (congrArg some hb83) ?_
       refine sq_end ?_
       intro σ110 hm111
       replace H := H.grow (hm111.mono fun _ h => h); clear hm111
       refine st_skip (congrArg some hb83) ?_
       refine st_skip (congrArg some hb83) ?_
       refine st (v := (B false)) (rv_pick_f (congrArg B hb83) rfl) ?_
       refine w_end ?_
       obtain rfl := Option.some.inj h
       exact ⟨rfl, _, σ110, fr_join ⟨rfl, rfl, rfl, rfl, rfl, rfl, trivial⟩, rfl, H.sel' [0, 1, 2, 3] rfl rfl⟩
     ·clear hj
      have h := h'
      clear h' H
      rintro e a w ⟨rfl, ρ, σ112, rfl, rfl, H⟩
      refine q_then ?_
      refine cd_cond o82 rfl (fun hb113 => ?_) (fun hb113 => ?_)
      ·replace h := bif_t hb113 h
       refine c_skip ?_
       refine q_then ?_
       refine c_blk ?_
       refine rg ?_
       refine st (v := (I s80)) (rv_move rfl) ?_
       refine st (v := (I (w64 (s80 - 1)))) (rv_sub (a := s80) (b := 1) rfl rfl) ?_
       refine st (v := (I (w64 (s80 - 1)))) (rv_assign rfl) ?_
       refine w_end ?_
       refine q_blk ?_
       refine q_then ?_
       obtain rfl := Option.some.inj h
       exact ⟨_, rfl, _, σ112, fr_join ⟨rfl, rfl, rfl, rfl, rfl, trivial⟩, rfl, H.sel' [0, 1, 2, 3] rfl rfl⟩
      ·replace h := bif_f hb113 h
       refine c_exit ?_
       refine q_then_x ?_
       refine q_then_x ?_
       refine q_blk_hit ?_
       obtain rfl := Option.some.inj h
       obtain rfl := hres _ rfl
       exact ⟨rfl, _, σ112, fr_join ⟨rfl, rfl, rfl, rfl, rfl, trivial⟩, rfl, H.sel' [0, 1, 2, 3] rfl rfl⟩
    ·clear hj
     have h := h'
     clear h' H
     rintro e a w ⟨rfl, ρ, σ114, rfl, rfl, H⟩
     refine q_then ?_
     refine c_seq ?_
     refine c_seq ?_
     refine rg ?_
     refine st (v := (I o43)) (rv_move rfl) ?_
     refine st (v := (I o79)) (rv_move rfl) ?_
     refine st (v := (B (decide (o79 < o43)))) (rv_gtr (a := o43) (b := o79) rfl rfl) ?_
     refine w_end ?_
     refine q_then ?_
     refine cd_cond (decide (o79 < o43)) rfl (fun hb115 => ?_) (fun hb115 => ?_)
     ·replace h := bif_t hb115 h
      refine c_exit ?_
      refine q_then_x ?_
      refine q_blk_x (by decide) ?_
      refine q_then_x ?_
      refine q_blk_hit ?_
      obtain rfl := Option.some.inj h
      obtain rfl := hres _ rfl
      exact ⟨rfl, _, σ114, fr_join ⟨rfl, rfl, rfl, trivial⟩, rfl, H.sel' [0, 1, 2, 3] rfl rfl, ((hn42.trans (List.length_set.trans List.length_set)).trans (List.length_set.trans List.length_set).symm)⟩
     ·replace h := bif_f hb115 h
      refine c_skip ?_
      refine q_then ?_
      refine c_seq ?_
      obtain ⟨x116, hx117, h'⟩ := bind_some h
      clear h
      have h := h'; clear h'
      obtain ⟨b119, o120, hi118, -⟩ := (H.own 0 rfl).ix hx117
      obtain ⟨_, ⟨_, _, rfl, rfl, ⟨_, _, rfl, ⟨_, rfl, hR125⟩, rfl⟩⟩, hl121, hc122⟩ := ((H.own 0 rfl).at hx117 hi118).cells
      obtain ⟨a123, c124, rfl⟩ := hR125.isSl
      replace H := H.add (d := Ch.ro 0 (Sl a123 x116.2.1 c124) x116.2.1) hR125 (fun _ h => h)
      clear hR125
      obtain ⟨x126, hx127, h'⟩ := bind_some h
      clear h
      have h := h'; clear h'
      obtain ⟨b129, o130, hi128, -⟩ := (H.own 1 rfl).ix hx127
      obtain ⟨_, ⟨_, _, rfl, rfl, ⟨_, _, rfl, ⟨_, rfl, hR135⟩, rfl⟩⟩, hl131, hc132⟩ := ((H.own 1 rfl).at hx127 hi128).cells
      obtain ⟨a133, c134, rfl⟩ := hR135.isSl
      replace H := H.add (d := Ch.ro 0 (Sl a133 x126.2.1 c134) x126.2.1) hR135 (fun _ h => h)
      clear hR135
      obtain ⟨x136, hx137, h'⟩ := bind_some h
      clear h
      have h := h'; clear h'
      obtain ⟨b139, o140, hi138, -⟩ := (H.own 2 rfl).ix hx137
      have Hs := H
      refine rg2 (σ := σ114) (Nm := Unit) 14 [13] [[false], [true]] [[(0, 0)], [(0, 0)], [(0, 0), (1, 1)], [(0, 0), (1, 1)], [(0, 0)], [(0, 0)], [(0, 0)], [(0, 0)], [(0, 0)], [(0, 0)], [(0, 0)], [(0, 0)], [(0, 0)], [(0, 1)]] 1 [fun (_nm : Unit) => fun σm => Hp S0 σ0 σm [Ch.ro 0 (Sl a133 x126.2.1 c134) x126.2.1, Ch.ro 0 (Sl a123 x116.2.1 c124) x116.2.1, Ch.own 0 0 (Sl adata_0 s40.1 cdata_0) s40.1, Ch.bx locmp_4_0 bcmp_4_0 ocmp_4_0 [(I cmp_4_0)] precmp_4_0 sufcmp_4_0, Ch.ro 0 (Sl acmp_4_1 cmp_4_1 ccmp_4_1) cmp_4_1, Ch.bx locmp_4_1 bcmp_4_1 ocmp_4_1 [(Sl acmp_4_1 cmp_4_1 ccmp_4_1)] precmp_4_1 sufcmp_4_1] ∧ Md (cov []) σ114 σm, fun (_nm : Unit) => fun σm => Hp S0 σ0 σm [Ch.own 0 0 (Sl adata_0 s40.1 cdata_0) (s40.1.set o43.toNat (x116.1, x116.2.1, x116.2.2)), Ch.ro 0 (Sl a133 x126.2.1 c134) x126.2.1, Ch.ro 0 (Sl a123 x116.2.1 c124) x116.2.1, Ch.bx locmp_4_0 bcmp_4_0 ocmp_4_0 [(I cmp_4_0)] precmp_4_0 sufcmp_4_0, Ch.ro 0 (Sl acmp_4_1 cmp_4_1 ccmp_4_1) cmp_4_1, Ch.bx locmp_4_1 bcmp_4_1 ocmp_4_1 [(Sl acmp_4_1 cmp_4_1 ccmp_4_1)] precmp_4_1 sufcmp_4_1] ∧ Md (fun i => (cov []) i ∨ (fun b => blk (Sl adata_0 s40.1 cdata_0) = some b) i) σ114 σm] [fun (_nm : Unit) => (Sl adata_0 s40.1 cdata_0), fun (_nm : Unit) => (I o43), fun (_nm : Unit) => (Sl adata_0 s40.1 cdata_0), fun (_nm : Unit) => (I o79), fun (_nm : Unit) => (Sl adata_0 s40.1 cdata_0), fun (_nm : Unit) => (I o79), fun (_nm : Unit) => (pt b119 o120), fun (_nm : Unit) => (.agg #[(I x116.1), (Sl a123 x116.2.1 c124), (I x116.2.2)]), fun (_nm : Unit) => (Sl adata_0 s40.1 cdata_0), fun (_nm : Unit) => (I o43), fun (_nm : Unit) => (pt b129 o130), fun (_nm : Unit) => (.agg #[(I x126.1), (Sl a133 x126.2.1 c134), (I x126.2.2)]), fun (_nm : Unit) => (pt b139 o140), fun (_nm : Unit) => undef] () (by kernel_rfl) (by kernel_rfl) ?_ ?_ ?_
      ·intro σm m0
       exact ⟨H.grow (m0.mono fun _ h => h.elim), m0⟩
      ·refine all_cons (obs_v rfl (by
         intro k; intro _nm ρ σm hJ hoff hdep
         have e0 : look 90 ρ 0 = (Sl adata_0 s40.1 cdata_0) := look_off (hoff 0 rfl) rfl
         exact dp_v (v := (Sl adata_0 s40.1 cdata_0)) (wanted_none _ rfl _) (rv_move e0) rfl hJ)) ?_
       refine all_cons (obs_v rfl (by
         intro k; intro _nm ρ σm hJ hoff hdep
         have e11 : look 90 ρ 11 = (I o43) := look_off (hoff 11 rfl) rfl
         exact dp_v (v := (I o43)) (wanted_none _ rfl _) (rv_move e11) rfl hJ)) ?_
       refine all_cons (obs_v rfl (by
         intro k; intro _nm ρ σm hJ hoff hdep
         have e0 : look 90 ρ 0 = (Sl adata_0 s40.1 cdata_0) := look_off (hoff 0 rfl) rfl
         exact dp_v (v := (Sl adata_0 s40.1 cdata_0)) (wanted_none _ rfl _) (rv_move e0) rfl hJ)) ?_
       refine all_cons (obs_v rfl (by
         intro k; intro _nm ρ σm hJ hoff hdep
         have e12 : look 90 ρ 12 = (I o79) := look_off (hoff 12 rfl) rfl
         exact dp_v (v := (I o79)) (wanted_none _ rfl _) (rv_move e12) rfl hJ)) ?_
       refine all_cons (obs_v rfl (by
         intro k; intro _nm ρ σm hJ hoff hdep
         have e0 : look 90 ρ 0 = (Sl adata_0 s40.1 cdata_0) := look_off (hoff 0 rfl) rfl
         exact dp_v (v := (Sl adata_0 s40.1 cdata_0)) (wanted_none _ rfl _) (rv_move e0) rfl hJ)) ?_
       refine all_cons (obs_v rfl (by
         intro k; intro _nm ρ σm hJ hoff hdep
         have e12 : look 90 ρ 12 = (I o79) := look_off (hoff 12 rfl) rfl
         exact dp_v (v := (I o79)) (wanted_none _ rfl _) (rv_move e12) rfl hJ)) ?_
       refine all_cons (obs_v rfl (by
         intro k; intro _nm ρ σm hJ hoff hdep
         have e75 : look 90 ρ 75 = (Sl adata_0 s40.1 cdata_0) := hdep 4 rfl rfl 75 rfl
         have e76 : look 90 ρ 76 = (I o79) := hdep 5 rfl rfl 76 rfl
         exact dp_v (v := (pt b119 o120)) (wanted_none _ rfl _) (rv_ix Try.underlying23 ti34 e75 e76 hi118) rfl hJ)) ?_
       refine all_cons (by
         refine ⟨?_, ?_⟩
         ·intro _nm ρ σm hJ hoff hdep
          have e77 : look 90 ρ 77 = (pt b119 o120) := hdep 6 rfl rfl 77 rfl
          obtain ⟨H, m⟩ := id hJ
          replace hc122 := fun j hj => m.hcell (hc122 j hj) nocov
          exact dp_v (v := (.agg #[(I x116.1), (Sl a123 x116.2.1 c124), (I x116.2.2)])) (wanted_none _ rfl _) (rv_load Try.underlying34 rfl ti34 e77 hl121 hc122) rfl hJ
         trivial) ?_
       refine all_cons (obs_v rfl (by
         intro k; intro _nm ρ σm hJ hoff hdep
         have e0 : look 90 ρ 0 = (Sl adata_0 s40.1 cdata_0) := look_off (hoff 0 rfl) rfl
         exact dp_v (v := (Sl adata_0 s40.1 cdata_0)) (wanted_none _ rfl _) (rv_move e0) rfl hJ)) ?_
       refine all_cons (obs_v rfl (by
         intro k; intro _nm ρ σm hJ hoff hdep
         have e11 : look 90 ρ 11 = (I o43) := look_off (hoff 11 rfl) rfl
         exact dp_v (v := (I o43)) (wanted_none _ rfl _) (rv_move e11) rfl hJ)) ?_
       refine all_cons (obs_v rfl (by
         intro k; intro _nm ρ σm hJ hoff hdep
         have e79 : look 90 ρ 79 = (Sl adata_0 s40.1 cdata_0) := hdep 8 rfl rfl 79 rfl
         have e80 : look 90 ρ 80 = (I o43) := hdep 9 rfl rfl 80 rfl
         exact dp_v (v := (pt b129 o130)) (wanted_none _ rfl _) (rv_ix Try.underlying23 ti34 e79 e80 hi128) rfl hJ)) ?_
       refine all_cons (by
         refine ⟨?_, ?_⟩
         ·intro _nm ρ σm hJ hoff hdep
          have e81 : look 90 ρ 81 = (pt b129 o130) := hdep 10 rfl rfl 81 rfl
          obtain ⟨H, m⟩ := id hJ
          replace hc132 := fun j hj => m.hcell (hc132 j hj) nocov
          exact dp_v (v := (.agg #[(I x126.1), (Sl a133 x126.2.1 c134), (I x126.2.2)])) (wanted_none _ rfl _) (rv_load Try.underlying34 rfl ti34 e81 hl131 hc132) rfl hJ
         trivial) ?_
       refine all_cons (obs_v rfl (by
         intro k; intro _nm ρ σm hJ hoff hdep
         have e71 : look 90 ρ 71 = (Sl adata_0 s40.1 cdata_0) := hdep 0 rfl rfl 71 rfl
         have e72 : look 90 ρ 72 = (I o43) := hdep 1 rfl rfl 72 rfl
         exact dp_v (v := (pt b139 o140)) (wanted_none _ rfl _) (rv_ix Try.underlying23 ti34 e71 e72 hi138) rfl hJ)) ?_
       refine all_cons (by
         refine ⟨?_, ?_⟩
         ·intro _nm ρ σm hJ hoff hdep
          have e83 : look 90 ρ 83 = (pt b139 o140) := hdep 12 rfl rfl 83 rfl
          have e78 : look 90 ρ 78 = (.agg #[(I x116.1), (Sl a123 x116.2.1 c124), (I x116.2.2)]) := hdep 7 rfl rfl 78 rfl
          obtain ⟨H, m⟩ := id hJ
          refine dp_exS (wanted_none _ rfl _) rfl (ex_store_own (e' := (x116.1, x116.2.1, x116.2.2)) (vs := [(I x116.1), (Sl a123 x116.2.1 c124), (I x116.2.2)]) (k := 0) H (i := 2) rfl ti34 hx137 hi138 e83 rfl e78 rfl rfl (Nat.le_of_ble_eq_true rfl) (by simp [plain]) (by rintro _ ⟨_, _, rfl, rfl, ⟨_, _, rfl, ⟨_, rfl, hR143⟩, rfl⟩⟩; exact ⟨[(I x116.1)], [(Sl a123 x116.2.1 c124), (I x116.2.2)], rfl, rfl, ⟨[(Sl a123 x116.2.1 c124)], [(I x116.2.2)], rfl, ⟨_, rfl, (H.ro 1 rfl)⟩, rfl⟩⟩)) ?_
          rintro σq ⟨H2, m2⟩
          exact ⟨_, (), rfl, ⟨H2.sel' [0, 1, 2, 3, 4, 5] rfl rfl, m.comp m2⟩, stab [0, 1, 2, 3, 4, 5, 6, 7, 8, 9, 10, 11, 12] (by kernel_rfl) ⟨rfl, rfl, rfl, rfl, rfl, rfl, rfl, rfl, rfl, rfl, rfl, rfl, rfl, trivial⟩⟩
         trivial) ?_
       exact all_nil
      ·intro _nm ρ σ144 hJ hoff hrel
       have e0 : look 90 ρ 0 = (Sl adata_0 s40.1 cdata_0) := look_off (hoff 0 rfl) rfl
       have e1 : look 90 ρ 1 = (I a_1) := look_off (hoff 1 rfl) rfl
       have e4 : look 90 ρ 4 = (.func (.func 88) #[] #[(pt bcmp_4_0 ocmp_4_0), (pt bcmp_4_1 ocmp_4_1)]) := look_off (hoff 4 rfl) rfl
       have e11 : look 90 ρ 11 = (I o43) := look_off (hoff 11 rfl) rfl
       have e12 : look 90 ρ 12 = (I o79) := look_off (hoff 12 rfl) rfl
       have e73 : look 90 ρ 73 = (Sl adata_0 s40.1 cdata_0) := hrel 2 rfl 73 rfl
       have e74 : look 90 ρ 74 = (I o79) := hrel 3 rfl 74 rfl
       have e82 : look 90 ρ 82 = (.agg #[(I x126.1), (Sl a133 x126.2.1 c134), (I x126.2.2)]) := hrel 11 rfl 82 rfl
       obtain ⟨H, -⟩ := (show Hp S0 σ0 σ144 [Ch.own 0 0 (Sl adata_0 s40.1 cdata_0) (s40.1.set o43.toNat (x116.1, x116.2.1, x116.2.2)), Ch.ro 0 (Sl a133 x126.2.1 c134) x126.2.1, Ch.ro 0 (Sl a123 x116.2.1 c124) x116.2.1, Ch.bx locmp_4_0 bcmp_4_0 ocmp_4_0 [(I cmp_4_0)] precmp_4_0 sufcmp_4_0, Ch.ro 0 (Sl acmp_4_1 cmp_4_1 ccmp_4_1) cmp_4_1, Ch.bx locmp_4_1 bcmp_4_1 ocmp_4_1 [(Sl acmp_4_1 cmp_4_1 ccmp_4_1)] precmp_4_1 sufcmp_4_1] ∧ Md (fun i => (cov []) i ∨ (fun b => blk (Sl adata_0 s40.1 cdata_0) = some b) i) σ114 σ144 from hJ)
       clear hJ Hs
       rw [fr_lookL (L := [(0, (Sl adata_0 s40.1 cdata_0)), (1, (I a_1)), (4, (.func (.func 88) #[] #[(pt bcmp_4_0 ocmp_4_0), (pt bcmp_4_1 ocmp_4_1)])), (11, (I o43)), (12, (I o79)), (73, (Sl adata_0 s40.1 cdata_0)), (74, (I o79)), (82, (.agg #[(I x126.1), (Sl a133 x126.2.1 c134), (I x126.2.2)]))]) ⟨e0, e1, e4, e11, e12, e73, e74, e82, trivial⟩]
       clear hoff hrel e0 e1 e4 e11 e12 e73 e74 e82
       have hsl : (Sl adata_0 s40.1 cdata_0) = (Sl adata_0 (s40.1.set o43.toNat (x116.1, x116.2.1, x116.2.2)) cdata_0) := sl_len (by simp)
       rw [hsl]; rw [hsl] at H; clear hsl
       obtain ⟨x145, hx146, h'⟩ := bind_some h
       clear h
       have h := h'; clear h'
       obtain ⟨b148, o149, hi147, -⟩ := (H.own 0 rfl).ix hx146
       refine st (v := (pt b148 o149)) (rv_ix Try.underlying23 ti34 rfl rfl hi147) ?_
       refine st_exS (ex_store_own (e' := (x126.1, x126.2.1, x126.2.2)) (vs := [(I x126.1), (Sl a133 x126.2.1 c134), (I x126.2.2)]) (k := 0) H (i := 0) rfl ti34 hx146 hi147 rfl rfl rfl rfl rfl (Nat.le_of_ble_eq_true rfl) (by simp [plain]) (by rintro _ ⟨_, _, rfl, rfl, ⟨_, _, rfl, ⟨_, rfl, hR152⟩, rfl⟩⟩; exact ⟨[(I x126.1)], [(Sl a133 x126.2.1 c134), (I x126.2.2)], rfl, rfl, ⟨[(Sl a133 x126.2.1 c134)], [(I x126.2.2)], rfl, ⟨_, rfl, (H.ro 1 rfl)⟩, rfl⟩⟩)) (wanted_none _ rfl _) ?_
       rintro σ153 ⟨H, -⟩
       have hsl : (Sl adata_0 (s40.1.set o43.toNat (x116.1, x116.2.1, x116.2.2)) cdata_0) = (Sl adata_0 ((s40.1.set o43.toNat (x116.1, x116.2.1, x116.2.2)).set o79.toNat (x126.1, x126.2.1, x126.2.2)) cdata_0) := sl_len List.length_set.symm
       rw [hsl]; rw [hsl] at H; clear hsl
       refine w_end ?_
       refine q_then ?_
       refine c_seq ?_
       refine rg ?_
       refine st (v := (I o43)) (rv_move rfl) ?_
       refine st (v := (I (w64 (o43 + 1)))) (rv_add (a := o43) (b := 1) rfl rfl) ?_
       refine st (v := (I (w64 (o43 + 1)))) (rv_assign rfl) ?_
       refine w_end ?_
       refine q_then ?_
       refine rg ?_
       refine st (v := (I o79)) (rv_move rfl) ?_
       refine st (v := (I (w64 (o79 - 1)))) (rv_sub (a := o79) (b := 1) rfl rfl) ?_
       refine st (v := (I (w64 (o79 - 1)))) (rv_assign rfl) ?_
       refine w_end ?_
       refine q_blk ?_
       refine q_then ?_
       obtain rfl := Option.some.inj h
       exact ⟨_, rfl, _, σ153, fr_join ⟨rfl, rfl, rfl, rfl, rfl, trivial⟩, rfl, H.sel' [0, 3, 4, 5] rfl rfl, ((List.length_set.trans (List.length_set.trans (hn42.trans (List.length_set.trans List.length_set)))).trans (List.length_set.trans List.length_set).symm)⟩
  ·clear hj
   have h := h'
   clear h' H
   rintro e a w ⟨rfl, ρ, σ154, rfl, rfl, H, hn155⟩
   refine q_then ?_
   refine c_seq ?_
   refine rg ?_
   refine st (v := (I o39.2)) (rv_move rfl) ?_
   refine st (v := (I o39.2)) (rv_assign rfl) ?_
   refine w_end ?_
   refine q_then ?_
   refine c_ret ?_
   obtain rfl := Option.some.inj h
   exact fin_ret (v := (I o39.2)) (results_ok Try.results118 (res_tmp (v := (I o39.2)) rfl res_nil) rfl) ⟨rfl, rfl, (hn155.trans (List.length_set.trans List.length_set))⟩ (H.sel' [0, 1, 3] rfl rfl)

end Go.Vs
