/- The functions compute what their models say. -/
import Derived.Test.YtflpjndobffkjaaKBuildTreeC5
set_option linter.unusedVariables false
set_option linter.unusedSimpArgs false
set_option maxRecDepth 20000
namespace Go.Vs
open Go Go.Proofs
attribute [local irreducible] Code.wp Code.wpIn wpList wpListIn wpQuiet Calls CallsIn

theorem c_slices_partitionCmpFunc_impl_Item__impl_sortByDistance_1 {data_0 : List (Int × (List Int) × Int)} {a_1 : Int} {b_2 : Int} {pivot_3 : Int} {cmp_4_0 : Int} {cmp_4_1 : List Int} {adata_0 : Option Addr} {cdata_0 : Nat} {locmp_4_0 bcmp_4_0 ocmp_4_0 : Nat} {precmp_4_0 sufcmp_4_0 : List Value} {acmp_4_1 : Option Addr} {ccmp_4_1 : Nat} {locmp_4_1 bcmp_4_1 ocmp_4_1 : Nat} {precmp_4_1 sufcmp_4_1 : List Value} {r : Int × Bool × (List (Int × (List Int) × Int))} (h : M.slices_partitionCmpFunc_impl_Item__impl_sortByDistance_1 data_0 a_1 b_2 pivot_3 cmp_4_0 cmp_4_1 = some r) :
    Cal2 Try.prog 119 [(Sl adata_0 data_0 cdata_0), (I a_1), (I b_2), (I pivot_3), (.func (.func 88) #[] #[(pt bcmp_4_0 ocmp_4_0), (pt bcmp_4_1 ocmp_4_1)])] [Ch.own 0 0 (Sl adata_0 data_0 cdata_0) data_0, Ch.bx locmp_4_0 bcmp_4_0 ocmp_4_0 [(I cmp_4_0)] precmp_4_0 sufcmp_4_0, Ch.bx locmp_4_1 bcmp_4_1 ocmp_4_1 [(Sl acmp_4_1 cmp_4_1 ccmp_4_1)] precmp_4_1 sufcmp_4_1, Ch.ro 0 (Sl acmp_4_1 cmp_4_1 ccmp_4_1) cmp_4_1] (fun n0 v L => v = (.tuple #[(I r.1), (B r.2.1)]) ∧ L = [Ch.own 0 0 (Sl adata_0 r.2.2 cdata_0) r.2.2, Ch.bx locmp_4_0 bcmp_4_0 ocmp_4_0 [(I cmp_4_0)] precmp_4_0 sufcmp_4_0, Ch.bx locmp_4_1 bcmp_4_1 ocmp_4_1 [(Sl acmp_4_1 cmp_4_1 ccmp_4_1)] precmp_4_1 sufcmp_4_1] ∧ r.2.2.length = data_0.length) := by
 refine cal2 (n := 178) Try.func119 rfl rfl rfl rfl ?_
 intro S0 σ0 n0 hn0 H
 unfold M.slices_partitionCmpFunc_impl_Item__impl_sortByDistance_1 at h
 refine c_seq ?_
 refine rg ?_
 refine st (v := (I 0)) (rv_assign rfl) ?_
 refine st (v := (B false)) (rv_assign rfl) ?_
 refine w_end ?_
 refine q_then ?_
 refine c_seq ?_
 obtain ⟨x1, hx2, h'⟩ := bind_some h
 clear h
 have h := h'; clear h'
 obtain ⟨b4, o5, hi3, -⟩ := (H.own 0 rfl).ix hx2
 obtain ⟨_, ⟨_, _, rfl, rfl, ⟨_, _, rfl, ⟨_, rfl, hR10⟩, rfl⟩⟩, hl6, hc7⟩ := ((H.own 0 rfl).at hx2 hi3).cells
 obtain ⟨a8, c9, rfl⟩ := hR10.isSl
 replace H := H.add (d := Ch.ro 0 (Sl a8 x1.2.1 c9) x1.2.1) hR10 (fun _ h => h)
 clear hR10
 obtain ⟨x11, hx12, h'⟩ := bind_some h
 clear h
 have h := h'; clear h'
 obtain ⟨b14, o15, hi13, -⟩ := (H.own 1 rfl).ix hx12
 obtain ⟨_, ⟨_, _, rfl, rfl, ⟨_, _, rfl, ⟨_, rfl, hR20⟩, rfl⟩⟩, hl16, hc17⟩ := ((H.own 1 rfl).at hx12 hi13).cells
 obtain ⟨a18, c19, rfl⟩ := hR20.isSl
 replace H := H.add (d := Ch.ro 0 (Sl a18 x11.2.1 c19) x11.2.1) hR20 (fun _ h => h)
 clear hR20
 obtain ⟨x21, hx22, h'⟩ := bind_some h
 clear h
 have h := h'; clear h'
 obtain ⟨b24, o25, hi23, -⟩ := (H.own 2 rfl).ix hx22
 have Hs := H
 refine rg2 (σ := σ0) (Nm := Unit) 14 [13] [[false], [true]] [[(0, 0)], [(0, 0)], [(0, 0), (1, 1)], [(0, 0), (1, 1)], [(0, 0)], [(0, 0)], [(0, 0)], [(0, 0)], [(0, 0)], [(0, 0)], [(0, 0)], [(0, 0)], [(0, 0)], [(0, 1)]] 1 [fun (_nm : Unit) => fun σm => Hp S0 σ0 σm [Ch.ro 0 (Sl a18 x11.2.1 c19) x11.2.1, Ch.ro 0 (Sl a8 x1.2.1 c9) x1.2.1, Ch.own 0 0 (Sl adata_0 data_0 cdata_0) data_0, Ch.bx locmp_4_0 bcmp_4_0 ocmp_4_0 [(I cmp_4_0)] precmp_4_0 sufcmp_4_0, Ch.bx locmp_4_1 bcmp_4_1 ocmp_4_1 [(Sl acmp_4_1 cmp_4_1 ccmp_4_1)] precmp_4_1 sufcmp_4_1, Ch.ro 0 (Sl acmp_4_1 cmp_4_1 ccmp_4_1) cmp_4_1] ∧ Md (cov []) σ0 σm, fun (_nm : Unit) => fun σm => Hp S0 σ0 σm [Ch.own 0 0 (Sl adata_0 data_0 cdata_0) (data_0.set a_1.toNat (x1.1, x1.2.1, x1.2.2)), Ch.ro 0 (Sl a18 x11.2.1 c19) x11.2.1, Ch.ro 0 (Sl a8 x1.2.1 c9) x1.2.1, Ch.bx locmp_4_0 bcmp_4_0 ocmp_4_0 [(I cmp_4_0)] precmp_4_0 sufcmp_4_0, Ch.bx locmp_4_1 bcmp_4_1 ocmp_4_1 [(Sl acmp_4_1 cmp_4_1 ccmp_4_1)] precmp_4_1 sufcmp_4_1, Ch.ro 0 (Sl acmp_4_1 cmp_4_1 ccmp_4_1) cmp_4_1] ∧ Md (fun i => (cov []) i ∨ (fun b => blk (Sl adata_0 data_0 cdata_0) = some b) i) σ0 σm] [fun (_nm : Unit) => (Sl adata_0 data_0 cdata_0), fun (_nm : Unit) => (I a_1), fun (_nm : Unit) => (Sl adata_0 data_0 cdata_0), fun (_nm : Unit) => (I pivot_3), fun (_nm : Unit) => (Sl adata_0 data_0 cdata_0), fun (_nm : Unit) => (I pivot_3), fun (_nm : Unit) => (pt b4 o5), fun (_nm : Unit) => (.agg #[(I x1.1), (Sl a8 x1.2.1 c9), (I x1.2.2)]), fun (_nm : Unit) => (Sl adata_0 data_0 cdata_0), fun (_nm : Unit) => (I a_1), fun (_nm : Unit) => (pt b14 o15), fun (_nm : Unit) => (.agg #[(I x11.1), (Sl a18 x11.2.1 c19), (I x11.2.2)]), fun (_nm : Unit) => (pt b24 o25), fun (_nm : Unit) => undef] () (by kernel_rfl) (by kernel_rfl) ?_ ?_ ?_
 ·intro σm m0
  exact ⟨H.grow (m0.mono fun _ h => h.elim), m0⟩
 ·refine all_cons (obs_v rfl (by
    intro k; intro _nm ρ σm hJ hoff hdep
    have e0 : look 178 ρ 0 = (Sl adata_0 data_0 cdata_0) := look_off (hoff 0 rfl) rfl
    exact dp_v (v := (Sl adata_0 data_0 cdata_0)) (wanted_none _ rfl _) (rv_move e0) rfl hJ)) ?_
  refine all_cons (obs_v rfl (by
    intro k; intro _nm ρ σm hJ hoff hdep
    have e1 : look 178 ρ 1 = (I a_1) := look_off (hoff 1 rfl) rfl
    exact dp_v (v := (I a_1)) (wanted_none _ rfl _) (rv_move e1) rfl hJ)) ?_
  refine all_cons (obs_v rfl (by
    intro k; intro _nm ρ σm hJ hoff hdep
    have e0 : look 178 ρ 0 = (Sl adata_0 data_0 cdata_0) := look_off (hoff 0 rfl) rfl
    exact dp_v (v := (Sl adata_0 data_0 cdata_0)) (wanted_none _ rfl _) (rv_move e0) rfl hJ)) ?_
  refine all_cons (obs_v rfl (by
    intro k; intro _nm ρ σm hJ hoff hdep
    have e3 : look 178 ρ 3 = (I pivot_3) := look_off (hoff 3 rfl) rfl
    exact dp_v (v := (I pivot_3)) (wanted_none _ rfl _) (rv_move e3) rfl hJ)) ?_
  refine all_cons (obs_v rfl (by
    intro k; intro _nm ρ σm hJ hoff hdep
    have e0 : look 178 ρ 0 = (Sl adata_0 data_0 cdata_0) := look_off (hoff 0 rfl) rfl
    exact dp_v (v := (Sl adata_0 data_0 cdata_0)) (wanted_none _ rfl _) (rv_move e0) rfl hJ)) ?_
  refine all_cons (obs_v rfl (by
    intro k; intro _nm ρ σm hJ hoff hdep
    have e3 : look 178 ρ 3 = (I pivot_3) := look_off (hoff 3 rfl) rfl
    exact dp_v (v := (I pivot_3)) (wanted_none _ rfl _) (rv_move e3) rfl hJ)) ?_
  refine all_cons (obs_v rfl (by
    intro k; intro _nm ρ σm hJ hoff hdep
    have e18 : look 178 ρ 18 = (Sl adata_0 data_0 cdata_0) := hdep 4 rfl rfl 18 rfl
    have e19 : look 178 ρ 19 = (I pivot_3) := hdep 5 rfl rfl 19 rfl
    exact dp_v (v := (pt b4 o5)) (wanted_none _ rfl _) (rv_ix Try.underlying23 ti34 e18 e19 hi3) rfl hJ)) ?_
  refine all_cons (by
    refine ⟨?_, ?_⟩
    ·intro _nm ρ σm hJ hoff hdep
     have e20 : look 178 ρ 20 = (pt b4 o5) := hdep 6 rfl rfl 20 rfl
     obtain ⟨H, m⟩ := id hJ
     replace hc7 := fun j hj => m.hcell (hc7 j hj) nocov
     exact dp_v (v := (.agg #[(I x1.1), (Sl a8 x1.2.1 c9), (I x1.2.2)])) (wanted_none _ rfl _) (rv_load Try.underlying34 rfl ti34 e20 hl6 hc7) rfl hJ
    trivial) ?_
  refine all_cons (obs_v rfl (by
    intro k; intro _nm ρ σm hJ hoff hdep
    have e0 : look 178 ρ 0 = (Sl adata_0 data_0 cdata_0) := look_off (hoff 0 rfl) rfl
    exact dp_v (v := (Sl adata_0 data_0 cdata_0)) (wanted_none _ rfl _) (rv_move e0) rfl hJ)) ?_
  refine all_cons (obs_v rfl (by
    intro k; intro _nm ρ σm hJ hoff hdep
    have e1 : look 178 ρ 1 = (I a_1) := look_off (hoff 1 rfl) rfl
    exact dp_v (v := (I a_1)) (wanted_none _ rfl _) (rv_move e1) rfl hJ)) ?_
  refine all_cons (obs_v rfl (by
    intro k; intro _nm ρ σm hJ hoff hdep
    have e22 : look 178 ρ 22 = (Sl adata_0 data_0 cdata_0) := hdep 8 rfl rfl 22 rfl
    have e23 : look 178 ρ 23 = (I a_1) := hdep 9 rfl rfl 23 rfl
    exact dp_v (v := (pt b14 o15)) (wanted_none _ rfl _) (rv_ix Try.underlying23 ti34 e22 e23 hi13) rfl hJ)) ?_
  refine all_cons (by
    refine ⟨?_, ?_⟩
    ·intro _nm ρ σm hJ hoff hdep
     have e24 : look 178 ρ 24 = (pt b14 o15) := hdep 10 rfl rfl 24 rfl
     obtain ⟨H, m⟩ := id hJ
     replace hc17 := fun j hj => m.hcell (hc17 j hj) nocov
     exact dp_v (v := (.agg #[(I x11.1), (Sl a18 x11.2.1 c19), (I x11.2.2)])) (wanted_none _ rfl _) (rv_load Try.underlying34 rfl ti34 e24 hl16 hc17) rfl hJ
    trivial) ?_
  refine all_cons (obs_v rfl (by
    intro k; intro _nm ρ σm hJ hoff hdep
    have e14 : look 178 ρ 14 = (Sl adata_0 data_0 cdata_0) := hdep 0 rfl rfl 14 rfl
    have e15 : look 178 ρ 15 = (I a_1) := hdep 1 rfl rfl 15 rfl
    exact dp_v (v := (pt b24 o25)) (wanted_none _ rfl _) (rv_ix Try.underlying23 ti34 e14 e15 hi23) rfl hJ)) ?_
  refine all_cons (by
    refine ⟨?_, ?_⟩
    ·intro _nm ρ σm hJ hoff hdep
     have e26 : look 178 ρ 26 = (pt b24 o25) := hdep 12 rfl rfl 26 rfl
     have e21 : look 178 ρ 21 = (.agg #[(I x1.1), (Sl a8 x1.2.1 c9), (I x1.2.2)]) := hdep 7 rfl rfl 21 rfl
     obtain ⟨H, m⟩ := id hJ
     refine dp_exS (wanted_none _ rfl _) rfl (ex_store_own (e' := (x1.1, x1.2.1, x1.2.2)) (vs := [(I x1.1), (Sl a8 x1.2.1 c9), (I x1.2.2)]) (k := 0) H (i := 2) rfl ti34 hx22 hi23 e26 rfl e21 rfl rfl (Nat.le_of_ble_eq_true rfl) (by simp [plain]) (by rintro _ ⟨_, _, rfl, rfl, ⟨_, _, rfl, ⟨_, rfl, hR28⟩, rfl⟩⟩; exact ⟨[(I x1.1)], [(Sl a8 x1.2.1 c9), (I x1.2.2)], rfl, rfl, ⟨[(Sl a8 x1.2.1 c9)], [(I x1.2.2)], rfl, ⟨_, rfl, (H.ro 1 rfl)⟩, rfl⟩⟩)) ?_
     rintro σq ⟨H2, m2⟩
     exact ⟨_, (), rfl, ⟨H2.sel' [0, 1, 2, 3, 4, 5] rfl rfl, m.comp m2⟩, stab [0, 1, 2, 3, 4, 5, 6, 7, 8, 9, 10, 11, 12] (by kernel_rfl) ⟨rfl, rfl, rfl, rfl, rfl, rfl, rfl, rfl, rfl, rfl, rfl, rfl, rfl, trivial⟩⟩
    trivial) ?_
  exact all_nil
 ·intro _nm ρ σ29 hJ hoff hrel
  have e0 : look 178 ρ 0 = (Sl adata_0 data_0 cdata_0) := look_off (hoff 0 rfl) rfl
  have e1 : look 178 ρ 1 = (I a_1) := look_off (hoff 1 rfl) rfl
  have e2 : look 178 ρ 2 = (I b_2) := look_off (hoff 2 rfl) rfl
  have e4 : look 178 ρ 4 = (.func (.func 88) #[] #[(pt bcmp_4_0 ocmp_4_0), (pt bcmp_4_1 ocmp_4_1)]) := look_off (hoff 4 rfl) rfl
  have e16 : look 178 ρ 16 = (Sl adata_0 data_0 cdata_0) := hrel 2 rfl 16 rfl
  have e17 : look 178 ρ 17 = (I pivot_3) := hrel 3 rfl 17 rfl
  have e25 : look 178 ρ 25 = (.agg #[(I x11.1), (Sl a18 x11.2.1 c19), (I x11.2.2)]) := hrel 11 rfl 25 rfl
  obtain ⟨H, -⟩ := (show Hp S0 σ0 σ29 [Ch.own 0 0 (Sl adata_0 data_0 cdata_0) (data_0.set a_1.toNat (x1.1, x1.2.1, x1.2.2)), Ch.ro 0 (Sl a18 x11.2.1 c19) x11.2.1, Ch.ro 0 (Sl a8 x1.2.1 c9) x1.2.1, Ch.bx locmp_4_0 bcmp_4_0 ocmp_4_0 [(I cmp_4_0)] precmp_4_0 sufcmp_4_0, Ch.bx locmp_4_1 bcmp_4_1 ocmp_4_1 [(Sl acmp_4_1 cmp_4_1 ccmp_4_1)] precmp_4_1 sufcmp_4_1, Ch.ro 0 (Sl acmp_4_1 cmp_4_1 ccmp_4_1) cmp_4_1] ∧ Md (fun i => (cov []) i ∨ (fun b => blk (Sl adata_0 data_0 cdata_0) = some b) i) σ0 σ29 from hJ)
  clear hJ Hs
  rw [fr_lookL (L := [(0, (Sl adata_0 data_0 cdata_0)), (1, (I a_1)), (2, (I b_2)), (4, (.func (.func 88) #[] #[(pt bcmp_4_0 ocmp_4_0), (pt bcmp_4_1 ocmp_4_1)])), (16, (Sl adata_0 data_0 cdata_0)), (17, (I pivot_3)), (25, (.agg #[(I x11.1), (Sl a18 x11.2.1 c19), (I x11.2.2)]))]) ⟨e0, e1, e2, e4, e16, e17, e25, trivial⟩]
  clear hoff hrel e0 e1 e2 e4 e16 e17 e25
  have hsl : (Sl adata_0 data_0 cdata_0) = (Sl adata_0 (data_0.set a_1.toNat (x1.1, x1.2.1, x1.2.2)) cdata_0) := sl_len (by simp)
  rw [hsl]; rw [hsl] at H; clear hsl
  obtain ⟨x30, hx31, h'⟩ := bind_some h
  clear h
  have h := h'; clear h'
  obtain ⟨b33, o34, hi32, -⟩ := (H.own 0 rfl).ix hx31
  refine st (v := (pt b33 o34)) (rv_ix Try.underlying23 ti34 rfl rfl hi32) ?_
  refine st_exS (ex_store_own (e' := (x11.1, x11.2.1, x11.2.2)) (vs := [(I x11.1), (Sl a18 x11.2.1 c19), (I x11.2.2)]) (k := 0) H (i := 0) rfl ti34 hx31 hi32 rfl rfl rfl rfl rfl (Nat.le_of_ble_eq_true rfl) (by simp [plain]) (by rintro _ ⟨_, _, rfl, rfl, ⟨_, _, rfl, ⟨_, rfl, hR37⟩, rfl⟩⟩; exact ⟨[(I x11.1)], [(Sl a18 x11.2.1 c19), (I x11.2.2)], rfl, rfl, ⟨[(Sl a18 x11.2.1 c19)], [(I x11.2.2)], rfl, ⟨_, rfl, (H.ro 1 rfl)⟩, rfl⟩⟩)) (wanted_none _ rfl _) ?_
  rintro σ38 ⟨H, -⟩
  have hsl : (Sl adata_0 (data_0.set a_1.toNat (x1.1, x1.2.1, x1.2.2)) cdata_0) = (Sl adata_0 ((data_0.set a_1.toNat (x1.1, x1.2.1, x1.2.2)).set pivot_3.toNat (x11.1, x11.2.1, x11.2.2)) cdata_0) := sl_len List.length_set.symm
  rw [hsl]; rw [hsl] at H; clear hsl
  refine w_end ?_
  refine q_then ?_
  refine c_seq ?_
  refine rg ?_
  refine st (v := (I a_1)) (rv_move rfl) ?_
  refine st (v := (I (w64 (a_1 + 1)))) (rv_add (a := a_1) (b := 1) rfl rfl) ?_
  refine st (v := (I b_2)) (rv_move rfl) ?_
  refine st (v := (I (w64 (b_2 - 1)))) (rv_sub (a := b_2) (b := 1) rfl rfl) ?_
  refine st (v := (I (w64 (a_1 + 1)))) (rv_assign rfl) ?_
  refine st (v := (I (w64 (b_2 - 1)))) (rv_assign rfl) ?_
  refine w_end ?_
  refine q_then ?_
  refine c_seq ?_
  obtain ⟨o39, hj, h'⟩ := bind_some h
  clear h
  refine c_cut (fun e a w => e = .normal ∧ ∃ (ρ : Nat → Value) (σ : St), a = fr 178 (updL ρ [(0, (Sl adata_0 ((data_0.set a_1.toNat (x1.1, x1.2.1, x1.2.2)).set pivot_3.toNat (x11.1, x11.2.1, x11.2.2)) cdata_0)), (1, (I a_1)), (4, (.func (.func 88) #[] #[(pt bcmp_4_0 ocmp_4_0), (pt bcmp_4_1 ocmp_4_1)])), (12, (I o39)), (13, (I (w64 (b_2 - 1))))]) ∧ w = σ.w ∧ Hp S0 σ0 σ [Ch.own 0 0 (Sl adata_0 ((data_0.set a_1.toNat (x1.1, x1.2.1, x1.2.2)).set pivot_3.toNat (x11.1, x11.2.1, x11.2.2)) cdata_0) ((data_0.set a_1.toNat (x1.1, x1.2.1, x1.2.2)).set pivot_3.toNat (x11.1, x11.2.1, x11.2.2)), Ch.bx locmp_4_0 bcmp_4_0 ocmp_4_0 [(I cmp_4_0)] precmp_4_0 sufcmp_4_0, Ch.ro 0 (Sl acmp_4_1 cmp_4_1 ccmp_4_1) cmp_4_1, Ch.bx locmp_4_1 bcmp_4_1 ocmp_4_1 [(Sl acmp_4_1 cmp_4_1 ccmp_4_1)] precmp_4_1 sufcmp_4_1]) ?_ ?_
  ·clear h'
   rename _ = some o39 => h
   refine c_blk ?_
   refine wp_loopM _ h (fun s40 a w => ∃ (ρ : Nat → Value) (σ : St), a = fr 178 (updL ρ [(0, (Sl adata_0 ((data_0.set a_1.toNat (x1.1, x1.2.1, x1.2.2)).set pivot_3.toNat (x11.1, x11.2.1, x11.2.2)) cdata_0)), (1, (I a_1)), (4, (.func (.func 88) #[] #[(pt bcmp_4_0 ocmp_4_0), (pt bcmp_4_1 ocmp_4_1)])), (12, (I s40)), (13, (I (w64 (b_2 - 1))))]) ∧ w = σ.w ∧ Hp S0 σ0 σ [Ch.own 0 0 (Sl adata_0 ((data_0.set a_1.toNat (x1.1, x1.2.1, x1.2.2)).set pivot_3.toNat (x11.1, x11.2.1, x11.2.2)) cdata_0) ((data_0.set a_1.toNat (x1.1, x1.2.1, x1.2.2)).set pivot_3.toNat (x11.1, x11.2.1, x11.2.2)), Ch.bx locmp_4_0 bcmp_4_0 ocmp_4_0 [(I cmp_4_0)] precmp_4_0 sufcmp_4_0, Ch.ro 0 (Sl acmp_4_1 cmp_4_1 ccmp_4_1) cmp_4_1, Ch.bx locmp_4_1 bcmp_4_1 ocmp_4_1 [(Sl acmp_4_1 cmp_4_1 ccmp_4_1)] precmp_4_1 sufcmp_4_1]) ⟨_, σ38, fr_join ⟨rfl, rfl, rfl, rfl, rfl, trivial⟩, rfl, H.sel' [0, 3, 5, 4] rfl rfl⟩ ?_
   clear h H
   rintro s40 a w o ⟨ρ, σ41, rfl, rfl, H⟩ h hres
   refine c_seq ?_
   refine c_seq ?_
   obtain ⟨o42, hj, h'⟩ := bind_some h
   clear h
   refine c_cut (fun e a w => e = .normal ∧ ∃ (ρ : Nat → Value) (σ : St), a = fr 178 (updL ρ [(0, (Sl adata_0 ((data_0.set a_1.toNat (x1.1, x1.2.1, x1.2.2)).set pivot_3.toNat (x11.1, x11.2.1, x11.2.2)) cdata_0)), (1, (I a_1)), (4, (.func (.func 88) #[] #[(pt bcmp_4_0 ocmp_4_0), (pt bcmp_4_1 ocmp_4_1)])), (12, (I s40)), (13, (I (w64 (b_2 - 1)))), (47, (B o42))]) ∧ w = σ.w ∧ Hp S0 σ0 σ [Ch.own 0 0 (Sl adata_0 ((data_0.set a_1.toNat (x1.1, x1.2.1, x1.2.2)).set pivot_3.toNat (x11.1, x11.2.1, x11.2.2)) cdata_0) ((data_0.set a_1.toNat (x1.1, x1.2.1, x1.2.2)).set pivot_3.toNat (x11.1, x11.2.1, x11.2.2)), Ch.bx locmp_4_0 bcmp_4_0 ocmp_4_0 [(I cmp_4_0)] precmp_4_0 sufcmp_4_0, Ch.ro 0 (Sl acmp_4_1 cmp_4_1 ccmp_4_1) cmp_4_1, Ch.bx locmp_4_1 bcmp_4_1 ocmp_4_1 [(Sl acmp_4_1 cmp_4_1 ccmp_4_1)] precmp_4_1 sufcmp_4_1]) ?_ ?_
   ·clear h'
    rename _ = some o42 => h
    refine rgP (σ := σ41) 13 (by kernel_rfl) (by kernel_rfl) (by kernel_rfl) ?_
    refine sq (v := (I s40)) (rv_move rfl) ?_
    refine sq (v := (I (w64 (b_2 - 1)))) (rv_move rfl) ?_
    refine sq (v := (B (decide (s40 ≤ (w64 (b_2 - 1)))))) (rv_leq (a := s40) (b := (w64 (b_2 - 1))) rfl rfl) ?_
    refine sq (v := (B (decide (s40 ≤ (w64 (b_2 - 1)))))) (rv_move rfl) ?_
    rcases Bool.eq_false_or_eq_true (decide (s40 ≤ (w64 (b_2 - 1)))) with hb43 | hb43
    ·replace h := bif_t hb43 h
     refine sq_g (v := (.func (.func 88) #[] #[(pt bcmp_4_0 ocmp_4_0), (pt bcmp_4_1 ocmp_4_1)])) (congrArg some hb43) (rv_move rfl) ?_
     refine sq_g (v := (Sl adata_0 ((data_0.set a_1.toNat (x1.1, x1.2.1, x1.2.2)).set pivot_3.toNat (x11.1, x11.2.1, x11.2.2)) cdata_0)) (congrArg some hb43) (rv_move rfl) ?_
     refine sq_g (v := (I s40)) (congrArg some hb43) (rv_move rfl) ?_
     obtain ⟨x44, hx45, h'⟩ := bind_some h
     clear h
     have h := h'; clear h'
     obtain ⟨b47, o48, hi46, -⟩ := (H.own 0 rfl).ix hx45
     refine sq_g (v := (pt b47 o48)) (congrArg some hb43) (rv_ix Try.underlying23 ti34 rfl rfl hi46) ?_
     obtain ⟨_, ⟨_, _, rfl, rfl, ⟨_, _, rfl, ⟨_, rfl, hR53⟩, rfl⟩⟩, hl49, hc50⟩ := ((H.own 0 rfl).at hx45 hi46).cells
     obtain ⟨a51, c52, rfl⟩ := hR53.isSl
     replace H := H.add (d := Ch.ro 0 (Sl a51 x44.2.1 c52) x44.2.1) hR53 (fun _ h => h)
     clear hR53
     refine sq_g (v := (.agg #[(I x44.1), (Sl a51 x44.2.1 c52), (I x44.2.2)])) (congrArg some hb43) (rv_load Try.underlying34 rfl ti34 rfl hl49 hc50) ?_
     refine sq_g (v := (Sl adata_0 ((data_0.set a_1.toNat (x1.1, x1.2.1, x1.2.2)).set pivot_3.toNat (x11.1, x11.2.1, x11.2.2)) cdata_0)) (congrArg some hb43) (rv_move rfl) ?_
     refine sq_g (v := (I a_1)) (congrArg some hb43) (rv_move rfl) ?_
     obtain ⟨x54, hx55, h'⟩ := bind_some h
     clear h
     have h := h'; clear h'
     obtain ⟨b57, o58, hi56, -⟩ := (H.own 1 rfl).ix hx55
     refine sq_g (v := (pt b57 o58)) (congrArg some hb43) (rv_ix Try.underlying23 ti34 rfl rfl hi56) ?_
     obtain ⟨_, ⟨_, _, rfl, rfl, ⟨_, _, rfl, ⟨_, rfl, hR63⟩, rfl⟩⟩, hl59, hc60⟩ := ((H.own 1 rfl).at hx55 hi56).cells
     obtain ⟨a61, c62, rfl⟩ := hR63.isSl
     replace H := H.add (d := Ch.ro 0 (Sl a61 x54.2.1 c62) x54.2.1) hR63 (fun _ h => h)
     clear hR63
     refine sq_g (v := (.agg #[(I x54.1), (Sl a61 x54.2.1 c62), (I x54.2.2)])) (congrArg some hb43) (rv_load Try.underlying34 rfl ti34 rfl hl59 hc60) ?_
     refine sq_end ?_
     intro σ64 hm65
     replace H := H.grow (hm65.mono fun _ h => h); clear hm65
     obtain ⟨r66, hx67, h'⟩ := bind_some h
     clear h
     have h := h'; clear h'
     have hc68 := c_impl_sortByDistance_1__p3__p24 (ax_0_1 := a51) (cx_0_1 := c52) (ay_1_1 := a61) (cy_1_1 := c62) (lop_2 := locmp_4_0) (bp_2 := bcmp_4_0) (op_2 := ocmp_4_0) (prep_2 := precmp_4_0) (sufp_2 := sufcmp_4_0) (lop_3 := locmp_4_1) (bp_3 := bcmp_4_1) (op_3 := ocmp_4_1) (prep_3 := precmp_4_1) (sufp_3 := sufcmp_4_1) (ap_3 := acmp_4_1) (cp_3 := ccmp_4_1) hx67
     refine st_call (cx_call hc68 (ent_v (cap := [(pt bcmp_4_0 ocmp_4_0), (pt bcmp_4_1 ocmp_4_1)]) hc68.fn rfl rfl) hn0 (H.sel' [1, 0, 3, 5, 4, 0, 1, 2, 4] rfl rfl : Hp S0 σ0 _ ([_, _, _, _, _] ++ _))) (wanted_yes rfl (by exact (congrArg some hb43))) ?_
     rintro _ σ69 ⟨_, ⟨rfl, rfl⟩, H, -⟩
     replace H : Hp S0 σ0 σ69 [Ch.bx locmp_4_0 bcmp_4_0 ocmp_4_0 [(I cmp_4_0)] precmp_4_0 sufcmp_4_0, Ch.bx locmp_4_1 bcmp_4_1 ocmp_4_1 [(Sl acmp_4_1 cmp_4_1 ccmp_4_1)] precmp_4_1 sufcmp_4_1, Ch.ro 0 (Sl a61 x54.2.1 c62) x54.2.1, Ch.ro 0 (Sl a51 x44.2.1 c52) x44.2.1, Ch.own 0 0 (Sl adata_0 ((data_0.set a_1.toNat (x1.1, x1.2.1, x1.2.2)).set pivot_3.toNat (x11.1, x11.2.1, x11.2.2)) cdata_0) ((data_0.set a_1.toNat (x1.1, x1.2.1, x1.2.2)).set pivot_3.toNat (x11.1, x11.2.1, x11.2.2)), Ch.ro 0 (Sl acmp_4_1 cmp_4_1 ccmp_4_1) cmp_4_1] := H
     refine st_g (v := (B (decide (r66 < 0)))) (congrArg some hb43) (rv_lss (a := r66) (b := 0) rfl rfl) ?_
     refine st (v := (B (decide (r66 < 0)))) (rv_pick_t (congrArg B hb43) rfl) ?_
     refine w_end ?_
     obtain rfl := Option.some.inj h
     exact ⟨rfl, _, σ69, fr_join ⟨rfl, rfl, rfl, rfl, rfl, rfl, trivial⟩, rfl, H.sel' [4, 0, 5, 1] rfl rfl⟩
    ·replace h := bif_f hb43 h
     refine sq_skip (congrArg some hb43) ?_
     refine sq_skip (congrArg some hb43) ?_
     refine sq_skip (congrArg some hb43) ?_
     refine sq_skip (congrArg some hb43) ?_
     refine sq_skip (congrArg some hb43) ?_
     refine sq_skip (congrArg some hb43) ?_
     refine sq_skip (congrArg some hb43) ?_
     refine sq_skip (congrArg some hb43) ?_
     refine sq_skip (congrArg some hb43) ?_
     refine sq_end ?_
     intro σ70 hm71
     replace H := H.grow (hm71.mono fun _ h => h); clear hm71
     refine st_skip (congrArg some hb43) ?_
     refine st_skip (congrArg some hb43) ?_
     refine st (v := (B false)) (rv_pick_f (congrArg B hb43) rfl) ?_
     refine w_end ?_
     obtain rfl := Option.some.inj h
     exact ⟨rfl, _, σ70, fr_join ⟨rfl, rfl, rfl, rfl, rfl, rfl, trivial⟩, rfl, H.sel' [0, 1, 2, 3] rfl rfl⟩
   ·clear hj
    have h := h'
    clear h' H
    rintro e a w ⟨rfl, ρ, σ72, rfl, rfl, H⟩
    refine q_then ?_
    refine cd_cond o42 rfl (fun hb73 => ?_) (fun hb73 => ?_)
    ·replace h := bif_t hb73 h
     refine c_skip ?_
     refine q_then ?_
     refine c_blk ?_
     refine rg ?_
     refine st (v := (I s40)) (rv_move rfl) ?_
     refine st (v := (I (w64 (s40 + 1)))) (rv_add (a := s40) (b := 1) rfl rfl) ?_
     refine st (v := (I (w64 (s40 + 1)))) (rv_assign rfl) ?_
     refine w_end ?_
     refine q_blk ?_
     refine q_then ?_
     obtain rfl := Option.some.inj h
     exact ⟨_, rfl, _, σ72, fr_join ⟨rfl, rfl, rfl, rfl, rfl, trivial⟩, rfl, H.sel' [0, 1, 2, 3] rfl rfl⟩
    ·replace h := bif_f hb73 h
     refine c_exit ?_
     refine q_then_x ?_
     refine q_then_x ?_
     refine q_blk_hit ?_
     obtain rfl := Option.some.inj h
     obtain rfl := hres _ rfl
     exact ⟨rfl, _, σ72, fr_join ⟨rfl, rfl, rfl, rfl, rfl, trivial⟩, rfl, H.sel' [0, 1, 2, 3] rfl rfl⟩
  ·clear hj
   have h := h'
   clear h' H
   rintro e a w ⟨rfl, ρ, σ74, rfl, rfl, H⟩
   refine q_then ?_
   refine c_seq ?_
   obtain ⟨o75, hj, h'⟩ := bind_some h
   clear h
   refine c_cut (fun e a w => e = .normal ∧ ∃ (ρ : Nat → Value) (σ : St), a = fr 178 (updL ρ [(0, (Sl adata_0 ((data_0.set a_1.toNat (x1.1, x1.2.1, x1.2.2)).set pivot_3.toNat (x11.1, x11.2.1, x11.2.2)) cdata_0)), (1, (I a_1)), (4, (.func (.func 88) #[] #[(pt bcmp_4_0 ocmp_4_0), (pt bcmp_4_1 ocmp_4_1)])), (12, (I o39)), (13, (I o75))]) ∧ w = σ.w ∧ Hp S0 σ0 σ [Ch.own 0 0 (Sl adata_0 ((data_0.set a_1.toNat (x1.1, x1.2.1, x1.2.2)).set pivot_3.toNat (x11.1, x11.2.1, x11.2.2)) cdata_0) ((data_0.set a_1.toNat (x1.1, x1.2.1, x1.2.2)).set pivot_3.toNat (x11.1, x11.2.1, x11.2.2)), Ch.bx locmp_4_0 bcmp_4_0 ocmp_4_0 [(I cmp_4_0)] precmp_4_0 sufcmp_4_0, Ch.ro 0 (Sl acmp_4_1 cmp_4_1 ccmp_4_1) cmp_4_1, Ch.bx locmp_4_1 bcmp_4_1 ocmp_4_1 [(Sl acmp_4_1 cmp_4_1 ccmp_4_1)] precmp_4_1 sufcmp_4_1]) ?_ ?_
   ·clear h'
    rename _ = some o75 => h
    refine c_blk ?_
    refine wp_loopM _ h (fun s76 a w => ∃ (ρ : Nat → Value) (σ : St), a = fr 178 (updL ρ [(0, (Sl adata_0 ((data_0.set a_1.toNat (x1.1, x1.2.1, x1.2.2)).set pivot_3.toNat (x11.1, x11.2.1, x11.2.2)) cdata_0)), (1, (I a_1)), (4, (.func (.func 88) #[] #[(pt bcmp_4_0 ocmp_4_0), (pt bcmp_4_1 ocmp_4_1)])), (12, (I o39)), (13, (I s76))]) ∧ w = σ.w ∧ Hp S0 σ0 σ [Ch.own 0 0 (Sl adata_0 ((data_0.set a_1.toNat (x1.1, x1.2.1, x1.2.2)).set pivot_3.toNat (x11.1, x11.2.1, x11.2.2)) cdata_0) ((data_0.set a_1.toNat (x1.1, x1.2.1, x1.2.2)).set pivot_3.toNat (x11.1, x11.2.1, x11.2.2)), Ch.bx locmp_4_0 bcmp_4_0 ocmp_4_0 [(I cmp_4_0)] precmp_4_0 sufcmp_4_0, Ch.ro 0 (Sl acmp_4_1 cmp_4_1 ccmp_4_1) cmp_4_1, Ch.bx locmp_4_1 bcmp_4_1 ocmp_4_1 [(Sl acmp_4_1 cmp_4_1 ccmp_4_1)] precmp_4_1 sufcmp_4_1]) ⟨_, σ74, fr_join ⟨rfl, rfl, rfl, rfl, rfl, trivial⟩, rfl, H.sel' [0, 1, 2, 3] rfl rfl⟩ ?_
    clear h H
    rintro s76 a w o ⟨ρ, σ77, rfl, rfl, H⟩ h hres
    refine c_seq ?_
    refine c_seq ?_
    obtain ⟨o78, hj, h'⟩ := bind_some h
    clear h
    refine c_cut (fun e a w => e = .normal ∧ ∃ (ρ : Nat → Value) (σ : St), a = fr 178 (updL ρ [(0, (Sl adata_0 ((data_0.set a_1.toNat (x1.1, x1.2.1, x1.2.2)).set pivot_3.toNat (x11.1, x11.2.1, x11.2.2)) cdata_0)), (1, (I a_1)), (4, (.func (.func 88) #[] #[(pt bcmp_4_0 ocmp_4_0), (pt bcmp_4_1 ocmp_4_1)])), (12, (I o39)), (13, (I s76)), (66, (B o78))]) ∧ w = σ.w ∧ Hp S0 σ0 σ [Ch.own 0 0 (Sl adata_0 ((data_0.set a_1.toNat (x1.1, x1.2.1, x1.2.2)).set pivot_3.toNat (x11.1, x11.2.1, x11.2.2)) cdata_0) ((data_0.set a_1.toNat (x1.1, x1.2.1, x1.2.2)).set pivot_3.toNat (x11.1, x11.2.1, x11.2.2)), Ch.bx locmp_4_0 bcmp_4_0 ocmp_4_0 [(I cmp_4_0)] precmp_4_0 sufcmp_4_0, Ch.ro 0 (Sl acmp_4_1 cmp_4_1 ccmp_4_1) cmp_4_1, Ch.bx locmp_4_1 bcmp_4_1 ocmp_4_1 [(Sl acmp_4_1 cmp_4_1 ccmp_4_1)] precmp_4_1 sufcmp_4_1]) ?_ ?_
    ·clear h'
     rename _ = some o78 => h
     refine rgP (σ := σ77) 13 (by kernel_rfl) (by kernel_rfl) (by kernel_rfl) ?_
     refine sq (v := (I o39)) (rv_move rfl) ?_
     refine sq (v := (I s76)) (rv_move rfl) ?_
     refine sq (v := (B (decide (o39 ≤ s76)))) (rv_leq (a := o39) (b := s76) rfl rfl) ?_
     refine sq (v := (B (decide (o39 ≤ s76)))) (rv_move rfl) ?_
     rcases Bool.eq_false_or_eq_true (decide (o39 ≤ s76)) with hb79 | hb79
     ·replace h := bif_t hb79 h
      refine sq_g (v := (.func (.func 88) #[] #[(pt bcmp_4_0 ocmp_4_0), (pt bcmp_4_1 ocmp_4_1)])) (congrArg some hb79) (rv_move rfl) ?_
      refine sq_g (v := (Sl adata_0 ((data_0.set a_1.toNat (x1.1, x1.2.1, x1.2.2)).set pivot_3.toNat (x11.1, x11.2.1, x11.2.2)) cdata_0)) (congrArg some hb79) (rv_move rfl) ?_
      refine sq_g (v := (I s76)) (congrArg some hb79) (rv_move rfl) ?_
      obtain ⟨x80, hx81, h'⟩ := bind_some h
      clear h
      have h := h'; clear h'
      obtain ⟨b83, o84, hi82, -⟩ := (H.own 0 rfl).ix hx81
      refine sq_g (v := (pt b83 o84)) (congrArg some hb79) (rv_ix Try.underlying23 ti34 rfl rfl hi82) ?_
      obtain ⟨_, ⟨_, _, rfl, rfl, ⟨_, _, rfl, ⟨_, rfl, hR89⟩, rfl⟩⟩, hl85, hc86⟩ := ((H.own 0 rfl).at hx81 hi82).cells
      obtain ⟨a87, c88, rfl⟩ := hR89.isSl
      replace H := H.add (d := Ch.ro 0 (Sl a87 x80.2.1 c88) x80.2.1) hR89 (fun _ h => h)
      clear hR89
      refine sq_g (v := (.agg #[(I x80.1), (Sl a87 x80.2.1 c88), (I x80.2.2)])) (congrArg some hb79) (rv_load Try.underlying34 rfl ti34 rfl hl85 hc86) ?_
      refine sq_g (v := (Sl adata_0 ((data_0.set a_1.toNat (x1.1, x1.2.1, x1.2.2)).set pivot_3.toNat (x11.1, x11.2.1, x11.2.2)) cdata_0)) (congrArg some hb79) (rv_move rfl) ?_
      refine sq_g (v := (I a_1)) (congrArg some hb79) (rv_move rfl) ?_
      obtain ⟨x90, hx91, h'⟩ := bind_some h
      clear h
      have h := h'; clear h'
      obtain ⟨b93, o94, hi92, -⟩ := (H.own 1 rfl).ix hx91
      refine sq_g (v := (pt b93 o94)) (congrArg some hb79) (rv_ix Try.underlying23 ti34 rfl rfl hi92) ?_
      obtain ⟨_, ⟨_, _, rfl, rfl, ⟨_, _, rfl, ⟨_, rfl, hR99⟩, rfl⟩⟩, hl95, hc96⟩ := ((H.own 1 rfl).at hx91 hi92).cells
      obtain ⟨a97, c98, rfl⟩ := hR99.isSl
      replace H := H.add (d := Ch.ro 0 (Sl a97 x90.2.1 c98) x90.2.1) hR99 (fun _ h => h)
      clear hR99
      refine sq_g (v := (.agg #[(I x90.1), (Sl a97 x90.2.1 c98), (I x90.2.2)])) (congrArg some hb79) (rv_load Try.underlying34 rfl ti34 rfl hl95 hc96) ?_
      refine sq_end ?_
      intro σ100 hm101
      replace H := H.grow (hm101.mono fun _ h => h); clear hm101
      obtain ⟨r102, hx103, h'⟩ := bind_some h
      clear h
      have h := h'; clear h'
      have hc104 := c_impl_sortByDistance_1__p3__p24 (ax_0_1 := a87) (cx_0_1 := c88) (ay_1_1 := a97) (cy_1_1 := c98) (lop_2 := locmp_4_0) (bp_2 := bcmp_4_0) (op_2 := ocmp_4_0) (prep_2 := precmp_4_0) (sufp_2 := sufcmp_4_0) (lop_3 := locmp_4_1) (bp_3 := bcmp_4_1) (op_3 := ocmp_4_1) (prep_3 := precmp_4_1) (sufp_3 := sufcmp_4_1) (ap_3 := acmp_4_1) (cp_3 := ccmp_4_1) hx103
      refine st_call (cx_call hc104 (ent_v (cap := [(pt bcmp_4_0 ocmp_4_0), (pt bcmp_4_1 ocmp_4_1)]) hc104.fn rfl rfl) hn0 (H.sel' [1, 0, 3, 5, 4, 0, 1, 2, 4] rfl rfl : Hp S0 σ0 _ ([_, _, _, _, _] ++ _))) (wanted_yes rfl (by exact (congrArg some hb79))) ?_
      rintro _ σ105 ⟨_, ⟨rfl, rfl⟩, H, -⟩
      replace H : Hp S0 σ0 σ105 [Ch.bx locmp_4_0 bcmp_4_0 ocmp_4_0 [(I cmp_4_0)] precmp_4_0 sufcmp_4_0, Ch.bx locmp_4_1 bcmp_4_1 ocmp_4_1 [(Sl acmp_4_1 cmp_4_1 ccmp_4_1)] precmp_4_1 sufcmp_4_1, Ch.ro 0 (Sl a97 x90.2.1 c98) x90.2.1, Ch.ro 0 (Sl a87 x80.2.1 c88) x80.2.1, Ch.own 0 0 (Sl adata_0 ((data_0.set a_1.toNat (x1.1, x1.2.1, x1.2.2)).set pivot_3.toNat (x11.1, x11.2.1, x11.2.2)) cdata_0) ((data_0.set a_1.toNat (x1.1, x1.2.1, x1.2.2)).set pivot_3.toNat (x11.1, x11.2.1, x11.2.2)), Ch.ro 0 (Sl acmp_4_1 cmp_4_1 ccmp_4_1) cmp_4_1] := H
      refine st_g (v := (B (decide (r102 < 0)))) (congrArg some hb79) (rv_lss (a := r102) (b := 0) rfl rfl) ?_
      refine st_g (v := (B (!(decide (r102 < 0))))) (congrArg some hb79) (rv_not rfl) ?_
      refine st (v := (B (!(decide (r102 < 0))))) (rv_pick_t (congrArg B hb79) rfl) ?_
      refine w_end ?_
      obtain rfl := Option.some.inj h
      exact ⟨rfl, _, σ105, fr_join ⟨rfl, rfl, rfl, rfl, rfl, rfl, trivial⟩, rfl, H.sel' [4, 0, 5, 1] rfl rfl⟩
     ·replace h := bif_f hb79 h
      refine sq_skip (congrArg some hb79) ?_
      refine sq_skip (congrArg some hb79) ?_
      refine sq_skip (congrArg some hb79) ?_
      refine sq_skip (congrArg some hb79) ?_
      refine sq_skip (congrArg some hb79) ?_
      refine sq_skip (congrArg some hb79) ?_
      refine sq_skip (congrArg some hb79) ?_
      refine sq_skip (congrArg some hb79) ?_
      refine sq_skip (congrArg some hb79) ?_
      refine sq_end ?_
      intro σ106 hm107
      replace H := H.grow (hm107.mono fun _ h => h); clear hm107
      refine st_skip (congrArg some hb79) ?_
      refine st_skip (congrArg some hb79) ?_
      refine st_skip (congrArg some hb79) ?_
      refine st (v := (B false)) (rv_pick_f (congrArg B hb79) rfl) ?_
      refine w_end ?_
      obtain rfl := Option.some.inj h
      exact ⟨rfl, _, σ106, fr_join ⟨rfl, rfl, rfl, rfl, rfl, rfl, trivial⟩, rfl, H.sel' [0, 1, 2, 3] rfl rfl⟩
    ·clear hj
     have h := h'
     clear h' H
     rintro e a w ⟨rfl, ρ, σ108, rfl, rfl, H⟩
     refine q_then ?_
     refine cd_cond o78 rfl (fun hb109 => ?_) (fun hb109 => ?_)
     ·replace h := bif_t hb109 h
      refine c_skip ?_
      refine q_then ?_
      refine c_blk ?_
      refine rg ?_
      refine st (v := (I s76)) (rv_move rfl) ?_
      refine st (v := (I (w64 (s76 - 1)))) (rv_sub (a := s76) (b := 1) rfl rfl) ?_
      refine st (v := (I (w64 (s76 - 1)))) (rv_assign rfl) ?_
      refine w_end ?_
      refine q_blk ?_
      refine q_then ?_
      obtain rfl := Option.some.inj h
      exact ⟨_, rfl, _, σ108, fr_join ⟨rfl, rfl, rfl, rfl, rfl, trivial⟩, rfl, H.sel' [0, 1, 2, 3] rfl rfl⟩
     ·replace h := bif_f hb109 h
      refine c_exit ?_
      refine q_then_x ?_
      refine q_then_x ?_
      refine q_blk_hit ?_
      obtain rfl := Option.some.inj h
      obtain rfl := hres _ rfl
      exact ⟨rfl, _, σ108, fr_join ⟨rfl, rfl, rfl, rfl, rfl, trivial⟩, rfl, H.sel' [0, 1, 2, 3] rfl rfl⟩
   ·clear hj
    have h := h'
    clear h' H
    rintro e a w ⟨rfl, ρ, σ110, rfl, rfl, H⟩
    refine q_then ?_
    refine c_seq ?_
    refine c_seq ?_
    refine rg ?_
    refine st (v := (I o39)) (rv_move rfl) ?_
    refine st (v := (I o75)) (rv_move rfl) ?_
    refine st (v := (B (decide (o75 < o39)))) (rv_gtr (a := o39) (b := o75) rfl rfl) ?_
    refine w_end ?_
    refine q_then ?_
    refine cd_cond (decide (o75 < o39)) rfl (fun hb111 => ?_) (fun hb111 => ?_)
    ·replace h := bif_t hb111 h
     refine c_seq ?_
     obtain ⟨x112, hx113, h'⟩ := bind_some h
     clear h
     have h := h'; clear h'
     obtain ⟨b115, o116, hi114, -⟩ := (H.own 0 rfl).ix hx113
     obtain ⟨_, ⟨_, _, rfl, rfl, ⟨_, _, rfl, ⟨_, rfl, hR121⟩, rfl⟩⟩, hl117, hc118⟩ := ((H.own 0 rfl).at hx113 hi114).cells
     obtain ⟨a119, c120, rfl⟩ := hR121.isSl
     replace H := H.add (d := Ch.ro 0 (Sl a119 x112.2.1 c120) x112.2.1) hR121 (fun _ h => h)
     clear hR121
     obtain ⟨x122, hx123, h'⟩ := bind_some h
     clear h
     have h := h'; clear h'
     obtain ⟨b125, o126, hi124, -⟩ := (H.own 1 rfl).ix hx123
     obtain ⟨_, ⟨_, _, rfl, rfl, ⟨_, _, rfl, ⟨_, rfl, hR131⟩, rfl⟩⟩, hl127, hc128⟩ := ((H.own 1 rfl).at hx123 hi124).cells
     obtain ⟨a129, c130, rfl⟩ := hR131.isSl
     replace H := H.add (d := Ch.ro 0 (Sl a129 x122.2.1 c130) x122.2.1) hR131 (fun _ h => h)
     clear hR131
     obtain ⟨x132, hx133, h'⟩ := bind_some h
     clear h
     have h := h'; clear h'
     obtain ⟨b135, o136, hi134, -⟩ := (H.own 2 rfl).ix hx133
     have Hs := H
     refine rg2 (σ := σ110) (Nm := Unit) 14 [13] [[false], [true]] [[(0, 0)], [(0, 0)], [(0, 0), (1, 1)], [(0, 0), (1, 1)], [(0, 0)], [(0, 0)], [(0, 0)], [(0, 0)], [(0, 0)], [(0, 0)], [(0, 0)], [(0, 0)], [(0, 0)], [(0, 1)]] 1 [fun (_nm : Unit) => fun σm => Hp S0 σ0 σm [Ch.ro 0 (Sl a129 x122.2.1 c130) x122.2.1, Ch.ro 0 (Sl a119 x112.2.1 c120) x112.2.1, Ch.own 0 0 (Sl adata_0 ((data_0.set a_1.toNat (x1.1, x1.2.1, x1.2.2)).set pivot_3.toNat (x11.1, x11.2.1, x11.2.2)) cdata_0) ((data_0.set a_1.toNat (x1.1, x1.2.1, x1.2.2)).set pivot_3.toNat (x11.1, x11.2.1, x11.2.2)), Ch.bx locmp_4_0 bcmp_4_0 ocmp_4_0 [(I cmp_4_0)] precmp_4_0 sufcmp_4_0, Ch.ro 0 (Sl acmp_4_1 cmp_4_1 ccmp_4_1) cmp_4_1, Ch.bx locmp_4_1 bcmp_4_1 ocmp_4_1 [(Sl acmp_4_1 cmp_4_1 ccmp_4_1)] precmp_4_1 sufcmp_4_1] ∧ Md (cov []) σ110 σm, fun (_nm : Unit) => fun σm => Hp S0 σ0 σm [Ch.own 0 0 (Sl adata_0 ((data_0.set a_1.toNat (x1.1, x1.2.1, x1.2.2)).set pivot_3.toNat (x11.1, x11.2.1, x11.2.2)) cdata_0) (((data_0.set a_1.toNat (x1.1, x1.2.1, x1.2.2)).set pivot_3.toNat (x11.1, x11.2.1, x11.2.2)).set o75.toNat (x112.1, x112.2.1, x112.2.2)), Ch.ro 0 (Sl a129 x122.2.1 c130) x122.2.1, Ch.ro 0 (Sl a119 x112.2.1 c120) x112.2.1, Ch.bx locmp_4_0 bcmp_4_0 ocmp_4_0 [(I cmp_4_0)] precmp_4_0 sufcmp_4_0, Ch.ro 0 (Sl acmp_4_1 cmp_4_1 ccmp_4_1) cmp_4_1, Ch.bx locmp_4_1 bcmp_4_1 ocmp_4_1 [(Sl acmp_4_1 cmp_4_1 ccmp_4_1)] precmp_4_1 sufcmp_4_1] ∧ Md (fun i => (cov []) i ∨ (fun b => blk (Sl adata_0 ((data_0.set a_1.toNat (x1.1, x1.2.1, x1.2.2)).set pivot_3.toNat (x11.1, x11.2.1, x11.2.2)) cdata_0) = some b) i) σ110 σm] [fun (_nm : Unit) => (Sl adata_0 ((data_0.set a_1.toNat (x1.1, x1.2.1, x1.2.2)).set pivot_3.toNat (x11.1, x11.2.1, x11.2.2)) cdata_0), fun (_nm : Unit) => (I o75), fun (_nm : Unit) => (Sl adata_0 ((data_0.set a_1.toNat (x1.1, x1.2.1, x1.2.2)).set pivot_3.toNat (x11.1, x11.2.1, x11.2.2)) cdata_0), fun (_nm : Unit) => (I a_1), fun (_nm : Unit) => (Sl adata_0 ((data_0.set a_1.toNat (x1.1, x1.2.1, x1.2.2)).set pivot_3.toNat (x11.1, x11.2.1, x11.2.2)) cdata_0), fun (_nm : Unit) => (I a_1), fun (_nm : Unit) => (pt b115 o116), fun (_nm : Unit) => (.agg #[(I x112.1), (Sl a119 x112.2.1 c120), (I x112.2.2)]), fun (_nm : Unit) => (Sl adata_0 ((data_0.set a_1.toNat (x1.1, x1.2.1, x1.2.2)).set pivot_3.toNat (x11.1, x11.2.1, x11.2.2)) cdata_0), fun (_nm : Unit) => (I o75), fun (_nm : Unit) => (pt b125 o126), fun (_nm : Unit) => (.agg #[(I x122.1), (Sl a129 x122.2.1 c130), (I x122.2.2)]), fun (_nm : Unit) => (pt b135 o136), fun (_nm : Unit) => undef] () (by kernel_rfl) (by kernel_rfl) ?_ ?_ ?_
     ·intro σm m0
      exact ⟨H.grow (m0.mono fun _ h => h.elim), m0⟩
     ·refine all_cons (obs_v rfl (by
        intro k; intro _nm ρ σm hJ hoff hdep
        have e0 : look 178 ρ 0 = (Sl adata_0 ((data_0.set a_1.toNat (x1.1, x1.2.1, x1.2.2)).set pivot_3.toNat (x11.1, x11.2.1, x11.2.2)) cdata_0) := look_off (hoff 0 rfl) rfl
        exact dp_v (v := (Sl adata_0 ((data_0.set a_1.toNat (x1.1, x1.2.1, x1.2.2)).set pivot_3.toNat (x11.1, x11.2.1, x11.2.2)) cdata_0)) (wanted_none _ rfl _) (rv_move e0) rfl hJ)) ?_
      refine all_cons (obs_v rfl (by
        intro k; intro _nm ρ σm hJ hoff hdep
        have e13 : look 178 ρ 13 = (I o75) := look_off (hoff 13 rfl) rfl
        exact dp_v (v := (I o75)) (wanted_none _ rfl _) (rv_move e13) rfl hJ)) ?_
      refine all_cons (obs_v rfl (by
        intro k; intro _nm ρ σm hJ hoff hdep
        have e0 : look 178 ρ 0 = (Sl adata_0 ((data_0.set a_1.toNat (x1.1, x1.2.1, x1.2.2)).set pivot_3.toNat (x11.1, x11.2.1, x11.2.2)) cdata_0) := look_off (hoff 0 rfl) rfl
        exact dp_v (v := (Sl adata_0 ((data_0.set a_1.toNat (x1.1, x1.2.1, x1.2.2)).set pivot_3.toNat (x11.1, x11.2.1, x11.2.2)) cdata_0)) (wanted_none _ rfl _) (rv_move e0) rfl hJ)) ?_
      refine all_cons (obs_v rfl (by
        intro k; intro _nm ρ σm hJ hoff hdep
        have e1 : look 178 ρ 1 = (I a_1) := look_off (hoff 1 rfl) rfl
        exact dp_v (v := (I a_1)) (wanted_none _ rfl _) (rv_move e1) rfl hJ)) ?_
      refine all_cons (obs_v rfl (by
        intro k; intro _nm ρ σm hJ hoff hdep
        have e0 : look 178 ρ 0 = (Sl adata_0 ((data_0.set a_1.toNat (x1.1, x1.2.1, x1.2.2)).set pivot_3.toNat (x11.1, x11.2.1, x11.2.2)) cdata_0) := look_off (hoff 0 rfl) rfl
        exact dp_v (v := (Sl adata_0 ((data_0.set a_1.toNat (x1.1, x1.2.1, x1.2.2)).set pivot_3.toNat (x11.1, x11.2.1, x11.2.2)) cdata_0)) (wanted_none _ rfl _) (rv_move e0) rfl hJ)) ?_
      refine all_cons (obs_v rfl (by
        intro k; intro _nm ρ σm hJ hoff hdep
        have e1 : look 178 ρ 1 = (I a_1) := look_off (hoff 1 rfl) rfl
        exact dp_v (v := (I a_1)) (wanted_none _ rfl _) (rv_move e1) rfl hJ)) ?_
      refine all_cons (obs_v rfl (by
        intro k; intro _nm ρ σm hJ hoff hdep
        have e76 : look 178 ρ 76 = (Sl adata_0 ((data_0.set a_1.toNat (x1.1, x1.2.1, x1.2.2)).set pivot_3.toNat (x11.1, x11.2.1, x11.2.2)) cdata_0) := hdep 4 rfl rfl 76 rfl
        have e77 : look 178 ρ 77 = (I a_1) := hdep 5 rfl rfl 77 rfl
        exact dp_v (v := (pt b115 o116)) (wanted_none _ rfl _) (rv_ix Try.underlying23 ti34 e76 e77 hi114) rfl hJ)) ?_
      refine all_cons (by
        refine ⟨?_, ?_⟩
        ·intro _nm ρ σm hJ hoff hdep
         have e78 : look 178 ρ 78 = (pt b115 o116) := hdep 6 rfl rfl 78 rfl
         obtain ⟨H, m⟩ := id hJ
         replace hc118 := fun j hj => m.hcell (hc118 j hj) nocov
         exact dp_v (v := (.agg #[(I x112.1), (Sl a119 x112.2.1 c120), (I x112.2.2)])) (wanted_none _ rfl _) (rv_load Try.underlying34 rfl ti34 e78 hl117 hc118) rfl hJ
        trivial) ?_
      refine all_cons (obs_v rfl (by
        intro k; intro _nm ρ σm hJ hoff hdep
        have e0 : look 178 ρ 0 = (Sl adata_0 ((data_0.set a_1.toNat (x1.1, x1.2.1, x1.2.2)).set pivot_3.toNat (x11.1, x11.2.1, x11.2.2)) cdata_0) := look_off (hoff 0 rfl) rfl
        exact dp_v (v := (Sl adata_0 ((data_0.set a_1.toNat (x1.1, x1.2.1, x1.2.2)).set pivot_3.toNat (x11.1, x11.2.1, x11.2.2)) cdata_0)) (wanted_none _ rfl _) (rv_move e0) rfl hJ)) ?_
      refine all_cons (obs_v rfl (by
        intro k; intro _nm ρ σm hJ hoff hdep
        have e13 : look 178 ρ 13 = (I o75) := look_off (hoff 13 rfl) rfl
        exact dp_v (v := (I o75)) (wanted_none _ rfl _) (rv_move e13) rfl hJ)) ?_
      refine all_cons (obs_v rfl (by
        intro k; intro _nm ρ σm hJ hoff hdep
        have e80 : look 178 ρ 80 = (Sl adata_0 ((data_0.set a_1.toNat (x1.1, x1.2.1, x1.2.2)).set pivot_3.toNat (x11.1, x11.2.1, x11.2.2)) cdata_0) := hdep 8 rfl rfl 80 rfl
        have e81 : look 178 ρ 81 = (I o75) := hdep 9 rfl rfl 81 rfl
        exact dp_v (v := (pt b125 o126)) (wanted_none _ rfl _) (rv_ix Try.underlying23 ti34 e80 e81 hi124) rfl hJ)) ?_
      refine all_cons (by
        refine ⟨?_, ?_⟩
        ·intro _nm ρ σm hJ hoff hdep
         have e82 : look 178 ρ 82 = (pt b125 o126) := hdep 10 rfl rfl 82 rfl
         obtain ⟨H, m⟩ := id hJ
         replace hc128 := fun j hj => m.hcell (hc128 j hj) nocov
         exact dp_v (v := (.agg #[(I x122.1), (Sl a129 x122.2.1 c130), (I x122.2.2)])) (wanted_none _ rfl _) (rv_load Try.underlying34 rfl ti34 e82 hl127 hc128) rfl hJ
        trivial) ?_
      refine all_cons (obs_v rfl (by
        intro k; intro _nm ρ σm hJ hoff hdep
        have e72 : look 178 ρ 72 = (Sl adata_0 ((data_0.set a_1.toNat (x1.1, x1.2.1, x1.2.2)).set pivot_3.toNat (x11.1, x11.2.1, x11.2.2)) cdata_0) := hdep 0 rfl rfl 72 rfl
        have e73 : look 178 ρ 73 = (I o75) := hdep 1 rfl rfl 73 rfl
        exact dp_v (v := (pt b135 o136)) (wanted_none _ rfl _) (rv_ix Try.underlying23 ti34 e72 e73 hi134) rfl hJ)) ?_
      refine all_cons (by
        refine ⟨?_, ?_⟩
        ·intro _nm ρ σm hJ hoff hdep
         have e84 : look 178 ρ 84 = (pt b135 o136) := hdep 12 rfl rfl 84 rfl
         have e79 : look 178 ρ 79 = (.agg #[(I x112.1), (Sl a119 x112.2.1 c120), (I x112.2.2)]) := hdep 7 rfl rfl 79 rfl
         obtain ⟨H, m⟩ := id hJ
         refine dp_exS (wanted_none _ rfl _) rfl (ex_store_own (e' := (x112.1, x112.2.1, x112.2.2)) (vs := [(I x112.1), (Sl a119 x112.2.1 c120), (I x112.2.2)]) (k := 0) H (i := 2) rfl ti34 hx133 hi134 e84 rfl e79 rfl rfl (Nat.le_of_ble_eq_true rfl) (by simp [plain]) (by rintro _ ⟨_, _, rfl, rfl, ⟨_, _, rfl, ⟨_, rfl, hR139⟩, rfl⟩⟩; exact ⟨[(I x112.1)], [(Sl a119 x112.2.1 c120), (I x112.2.2)], rfl, rfl, ⟨[(Sl a119 x112.2.1 c120)], [(I x112.2.2)], rfl, ⟨_, rfl, (H.ro 1 rfl)⟩, rfl⟩⟩)) ?_
         rintro σq ⟨H2, m2⟩
         exact ⟨_, (), rfl, ⟨H2.sel' [0, 1, 2, 3, 4, 5] rfl rfl, m.comp m2⟩, stab [0, 1, 2, 3, 4, 5, 6, 7, 8, 9, 10, 11, 12] (by kernel_rfl) ⟨rfl, rfl, rfl, rfl, rfl, rfl, rfl, rfl, rfl, rfl, rfl, rfl, rfl, trivial⟩⟩
        trivial) ?_
      exact all_nil
     ·intro _nm ρ σ140 hJ hoff hrel
      have e0 : look 178 ρ 0 = (Sl adata_0 ((data_0.set a_1.toNat (x1.1, x1.2.1, x1.2.2)).set pivot_3.toNat (x11.1, x11.2.1, x11.2.2)) cdata_0) := look_off (hoff 0 rfl) rfl
      have e4 : look 178 ρ 4 = (.func (.func 88) #[] #[(pt bcmp_4_0 ocmp_4_0), (pt bcmp_4_1 ocmp_4_1)]) := look_off (hoff 4 rfl) rfl
      have e13 : look 178 ρ 13 = (I o75) := look_off (hoff 13 rfl) rfl
      have e74 : look 178 ρ 74 = (Sl adata_0 ((data_0.set a_1.toNat (x1.1, x1.2.1, x1.2.2)).set pivot_3.toNat (x11.1, x11.2.1, x11.2.2)) cdata_0) := hrel 2 rfl 74 rfl
      have e75 : look 178 ρ 75 = (I a_1) := hrel 3 rfl 75 rfl
      have e83 : look 178 ρ 83 = (.agg #[(I x122.1), (Sl a129 x122.2.1 c130), (I x122.2.2)]) := hrel 11 rfl 83 rfl
      obtain ⟨H, -⟩ := (show Hp S0 σ0 σ140 [Ch.own 0 0 (Sl adata_0 ((data_0.set a_1.toNat (x1.1, x1.2.1, x1.2.2)).set pivot_3.toNat (x11.1, x11.2.1, x11.2.2)) cdata_0) (((data_0.set a_1.toNat (x1.1, x1.2.1, x1.2.2)).set pivot_3.toNat (x11.1, x11.2.1, x11.2.2)).set o75.toNat (x112.1, x112.2.1, x112.2.2)), Ch.ro 0 (Sl a129 x122.2.1 c130) x122.2.1, Ch.ro 0 (Sl a119 x112.2.1 c120) x112.2.1, Ch.bx locmp_4_0 bcmp_4_0 ocmp_4_0 [(I cmp_4_0)] precmp_4_0 sufcmp_4_0, Ch.ro 0 (Sl acmp_4_1 cmp_4_1 ccmp_4_1) cmp_4_1, Ch.bx locmp_4_1 bcmp_4_1 ocmp_4_1 [(Sl acmp_4_1 cmp_4_1 ccmp_4_1)] precmp_4_1 sufcmp_4_1] ∧ Md (fun i => (cov []) i ∨ (fun b => blk (Sl adata_0 ((data_0.set a_1.toNat (x1.1, x1.2.1, x1.2.2)).set pivot_3.toNat (x11.1, x11.2.1, x11.2.2)) cdata_0) = some b) i) σ110 σ140 from hJ)
      clear hJ Hs
      rw [fr_lookL (L := [(0, (Sl adata_0 ((data_0.set a_1.toNat (x1.1, x1.2.1, x1.2.2)).set pivot_3.toNat (x11.1, x11.2.1, x11.2.2)) cdata_0)), (4, (.func (.func 88) #[] #[(pt bcmp_4_0 ocmp_4_0), (pt bcmp_4_1 ocmp_4_1)])), (13, (I o75)), (74, (Sl adata_0 ((data_0.set a_1.toNat (x1.1, x1.2.1, x1.2.2)).set pivot_3.toNat (x11.1, x11.2.1, x11.2.2)) cdata_0)), (75, (I a_1)), (83, (.agg #[(I x122.1), (Sl a129 x122.2.1 c130), (I x122.2.2)]))]) ⟨e0, e4, e13, e74, e75, e83, trivial⟩]
      clear hoff hrel e0 e4 e13 e74 e75 e83
      have hsl : (Sl adata_0 ((data_0.set a_1.toNat (x1.1, x1.2.1, x1.2.2)).set pivot_3.toNat (x11.1, x11.2.1, x11.2.2)) cdata_0) = (Sl adata_0 (((data_0.set a_1.toNat (x1.1, x1.2.1, x1.2.2)).set pivot_3.toNat (x11.1, x11.2.1, x11.2.2)).set o75.toNat (x112.1, x112.2.1, x112.2.2)) cdata_0) := sl_len (by simp)
      rw [hsl]; rw [hsl] at H; clear hsl
      obtain ⟨x141, hx142, h'⟩ := bind_some h
      clear h
      have h := h'; clear h'
      obtain ⟨b144, o145, hi143, -⟩ := (H.own 0 rfl).ix hx142
      refine st (v := (pt b144 o145)) (rv_ix Try.underlying23 ti34 rfl rfl hi143) ?_
      refine st_exS (ex_store_own (e' := (x122.1, x122.2.1, x122.2.2)) (vs := [(I x122.1), (Sl a129 x122.2.1 c130), (I x122.2.2)]) (k := 0) H (i := 0) rfl ti34 hx142 hi143 rfl rfl rfl rfl rfl (Nat.le_of_ble_eq_true rfl) (by simp [plain]) (by rintro _ ⟨_, _, rfl, rfl, ⟨_, _, rfl, ⟨_, rfl, hR148⟩, rfl⟩⟩; exact ⟨[(I x122.1)], [(Sl a129 x122.2.1 c130), (I x122.2.2)], rfl, rfl, ⟨[(Sl a129 x122.2.1 c130)], [(I x122.2.2)], rfl, ⟨_, rfl, (H.ro 1 rfl)⟩, rfl⟩⟩)) (wanted_none _ rfl _) ?_
      rintro σ149 ⟨H, -⟩
      have hsl : (Sl adata_0 (((data_0.set a_1.toNat (x1.1, x1.2.1, x1.2.2)).set pivot_3.toNat (x11.1, x11.2.1, x11.2.2)).set o75.toNat (x112.1, x112.2.1, x112.2.2)) cdata_0) = (Sl adata_0 ((((data_0.set a_1.toNat (x1.1, x1.2.1, x1.2.2)).set pivot_3.toNat (x11.1, x11.2.1, x11.2.2)).set o75.toNat (x112.1, x112.2.1, x112.2.2)).set a_1.toNat (x122.1, x122.2.1, x122.2.2)) cdata_0) := sl_len List.length_set.symm
      rw [hsl]; rw [hsl] at H; clear hsl
      refine w_end ?_
      refine q_then ?_
      refine c_seq ?_
      refine rg ?_
      refine st (v := (I o75)) (rv_move rfl) ?_
      refine st (v := (I o75)) (rv_assign rfl) ?_
      refine st (v := (B true)) (rv_assign rfl) ?_
      refine w_end ?_
      refine q_then ?_
      refine c_ret ?_
      refine q_then_r ?_
      obtain rfl := Option.some.inj h
      exact fin_ret (v := (.tuple #[(I o75), (B true)])) (results_ok Try.results119 (res_tmp (v := (I o75)) rfl (res_tmp (v := (B true)) rfl res_nil)) rfl) ⟨rfl, rfl, (List.length_set.trans (List.length_set.trans (List.length_set.trans List.length_set)))⟩ (H.sel' [0, 3, 5] rfl rfl)
    ·replace h := bif_f hb111 h
     refine c_skip ?_
     refine q_then ?_
     refine c_seq ?_
     obtain ⟨x150, hx151, h'⟩ := bind_some h
     clear h
     have h := h'; clear h'
     obtain ⟨b153, o154, hi152, -⟩ := (H.own 0 rfl).ix hx151
     obtain ⟨_, ⟨_, _, rfl, rfl, ⟨_, _, rfl, ⟨_, rfl, hR159⟩, rfl⟩⟩, hl155, hc156⟩ := ((H.own 0 rfl).at hx151 hi152).cells
     obtain ⟨a157, c158, rfl⟩ := hR159.isSl
     replace H := H.add (d := Ch.ro 0 (Sl a157 x150.2.1 c158) x150.2.1) hR159 (fun _ h => h)
     clear hR159
     obtain ⟨x160, hx161, h'⟩ := bind_some h
     clear h
     have h := h'; clear h'
     obtain ⟨b163, o164, hi162, -⟩ := (H.own 1 rfl).ix hx161
     obtain ⟨_, ⟨_, _, rfl, rfl, ⟨_, _, rfl, ⟨_, rfl, hR169⟩, rfl⟩⟩, hl165, hc166⟩ := ((H.own 1 rfl).at hx161 hi162).cells
     obtain ⟨a167, c168, rfl⟩ := hR169.isSl
     replace H := H.add (d := Ch.ro 0 (Sl a167 x160.2.1 c168) x160.2.1) hR169 (fun _ h => h)
     clear hR169
     obtain ⟨x170, hx171, h'⟩ := bind_some h
     clear h
     have h := h'; clear h'
     obtain ⟨b173, o174, hi172, -⟩ := (H.own 2 rfl).ix hx171
     have Hs := H
     refine rg2 (σ := σ110) (Nm := Unit) 14 [13] [[false], [true]] [[(0, 0)], [(0, 0)], [(0, 0), (1, 1)], [(0, 0), (1, 1)], [(0, 0)], [(0, 0)], [(0, 0)], [(0, 0)], [(0, 0)], [(0, 0)], [(0, 0)], [(0, 0)], [(0, 0)], [(0, 1)]] 1 [fun (_nm : Unit) => fun σm => Hp S0 σ0 σm [Ch.ro 0 (Sl a167 x160.2.1 c168) x160.2.1, Ch.ro 0 (Sl a157 x150.2.1 c158) x150.2.1, Ch.own 0 0 (Sl adata_0 ((data_0.set a_1.toNat (x1.1, x1.2.1, x1.2.2)).set pivot_3.toNat (x11.1, x11.2.1, x11.2.2)) cdata_0) ((data_0.set a_1.toNat (x1.1, x1.2.1, x1.2.2)).set pivot_3.toNat (x11.1, x11.2.1, x11.2.2)), Ch.bx locmp_4_0 bcmp_4_0 ocmp_4_0 [(I cmp_4_0)] precmp_4_0 sufcmp_4_0, Ch.ro 0 (Sl acmp_4_1 cmp_4_1 ccmp_4_1) cmp_4_1, Ch.bx locmp_4_1 bcmp_4_1 ocmp_4_1 [(Sl acmp_4_1 cmp_4_1 ccmp_4_1)] precmp_4_1 sufcmp_4_1] ∧ Md (cov []) σ110 σm, fun (_nm : Unit) => fun σm => Hp S0 σ0 σm [Ch.own 0 0 (Sl adata_0 ((data_0.set a_1.toNat (x1.1, x1.2.1, x1.2.2)).set pivot_3.toNat (x11.1, x11.2.1, x11.2.2)) cdata_0) (((data_0.set a_1.toNat (x1.1, x1.2.1, x1.2.2)).set pivot_3.toNat (x11.1, x11.2.1, x11.2.2)).set o39.toNat (x150.1, x150.2.1, x150.2.2)), Ch.ro 0 (Sl a167 x160.2.1 c168) x160.2.1, Ch.ro 0 (Sl a157 x150.2.1 c158) x150.2.1, Ch.bx locmp_4_0 bcmp_4_0 ocmp_4_0 [(I cmp_4_0)] precmp_4_0 sufcmp_4_0, Ch.ro 0 (Sl acmp_4_1 cmp_4_1 ccmp_4_1) cmp_4_1, Ch.bx locmp_4_1 bcmp_4_1 ocmp_4_1 [(Sl acmp_4_1 cmp_4_1 ccmp_4_1)] precmp_4_1 sufcmp_4_1] ∧ Md (fun i => (cov []) i ∨ (fun b => blk (Sl adata_0 ((data_0.set a_1.toNat (x1.1, x1.2.1, x1.2.2)).set pivot_3.toNat (x11.1, x11.2.1, x11.2.2)) cdata_0) = some b) i) σ110 σm] [fun (_nm : Unit) => (Sl adata_0 ((data_0.set a_1.toNat (x1.1, x1.2.1, x1.2.2)).set pivot_3.toNat (x11.1, x11.2.1, x11.2.2)) cdata_0), fun (_nm : Unit) => (I o39), fun (_nm : Unit) => (Sl adata_0 ((data_0.set a_1.toNat (x1.1, x1.2.1, x1.2.2)).set pivot_3.toNat (x11.1, x11.2.1, x11.2.2)) cdata_0), fun (_nm : Unit) => (I o75), fun (_nm : Unit) => (Sl adata_0 ((data_0.set a_1.toNat (x1.1, x1.2.1, x1.2.2)).set pivot_3.toNat (x11.1, x11.2.1, x11.2.2)) cdata_0), fun (_nm : Unit) => (I o75), fun (_nm : Unit) => (pt b153 o154), fun (_nm : Unit) => (.agg #[(I x150.1), (Sl a157 x150.2.1 c158), (I x150.2.2)]), fun (_nm : Unit) => (Sl adata_0 ((data_0.set a_1.toNat (x1.1, x1.2.1, x1.2.2)).set pivot_3.toNat (x11.1, x11.2.1, x11.2.2)) cdata_0), fun (_nm : Unit) => (I o39), fun (_nm : Unit) => (pt b163 o164), fun (_nm : Unit) => (.agg #[(I x160.1), (Sl a167 x160.2.1 c168), (I x160.2.2)]), fun (_nm : Unit) => (pt b173 o174), fun (_nm : Unit) => undef] () (by kernel_rfl) (by kernel_rfl) ?_ ?_ ?_
     ·intro σm m0
      exact ⟨H.grow (m0.mono fun _ h => h.elim), m0⟩
     ·refine all_cons (obs_v rfl (by
        intro k; intro _nm ρ σm hJ hoff hdep
        have e0 : look 178 ρ 0 = (Sl adata_0 ((data_0.set a_1.toNat (x1.1, x1.2.1, x1.2.2)).set pivot_3.toNat (x11.1, x11.2.1, x11.2.2)) cdata_0) := look_off (hoff 0 rfl) rfl
        exact dp_v (v := (Sl adata_0 ((data_0.set a_1.toNat (x1.1, x1.2.1, x1.2.2)).set pivot_3.toNat (x11.1, x11.2.1, x11.2.2)) cdata_0)) (wanted_none _ rfl _) (rv_move e0) rfl hJ)) ?_
      refine all_cons (obs_v rfl (by
        intro k; intro _nm ρ σm hJ hoff hdep
        have e12 : look 178 ρ 12 = (I o39) := look_off (hoff 12 rfl) rfl
        exact dp_v (v := (I o39)) (wanted_none _ rfl _) (rv_move e12) rfl hJ)) ?_
      refine all_cons (obs_v rfl (by
        intro k; intro _nm ρ σm hJ hoff hdep
        have e0 : look 178 ρ 0 = (Sl adata_0 ((data_0.set a_1.toNat (x1.1, x1.2.1, x1.2.2)).set pivot_3.toNat (x11.1, x11.2.1, x11.2.2)) cdata_0) := look_off (hoff 0 rfl) rfl
        exact dp_v (v := (Sl adata_0 ((data_0.set a_1.toNat (x1.1, x1.2.1, x1.2.2)).set pivot_3.toNat (x11.1, x11.2.1, x11.2.2)) cdata_0)) (wanted_none _ rfl _) (rv_move e0) rfl hJ)) ?_
      refine all_cons (obs_v rfl (by
        intro k; intro _nm ρ σm hJ hoff hdep
        have e13 : look 178 ρ 13 = (I o75) := look_off (hoff 13 rfl) rfl
        exact dp_v (v := (I o75)) (wanted_none _ rfl _) (rv_move e13) rfl hJ)) ?_
      refine all_cons (obs_v rfl (by
        intro k; intro _nm ρ σm hJ hoff hdep
        have e0 : look 178 ρ 0 = (Sl adata_0 ((data_0.set a_1.toNat (x1.1, x1.2.1, x1.2.2)).set pivot_3.toNat (x11.1, x11.2.1, x11.2.2)) cdata_0) := look_off (hoff 0 rfl) rfl
        exact dp_v (v := (Sl adata_0 ((data_0.set a_1.toNat (x1.1, x1.2.1, x1.2.2)).set pivot_3.toNat (x11.1, x11.2.1, x11.2.2)) cdata_0)) (wanted_none _ rfl _) (rv_move e0) rfl hJ)) ?_
      refine all_cons (obs_v rfl (by
        intro k; intro _nm ρ σm hJ hoff hdep
        have e13 : look 178 ρ 13 = (I o75) := look_off (hoff 13 rfl) rfl
        exact dp_v (v := (I o75)) (wanted_none _ rfl _) (rv_move e13) rfl hJ)) ?_
      refine all_cons (obs_v rfl (by
        intro k; intro _nm ρ σm hJ hoff hdep
        have e91 : look 178 ρ 91 = (Sl adata_0 ((data_0.set a_1.toNat (x1.1, x1.2.1, x1.2.2)).set pivot_3.toNat (x11.1, x11.2.1, x11.2.2)) cdata_0) := hdep 4 rfl rfl 91 rfl
        have e92 : look 178 ρ 92 = (I o75) := hdep 5 rfl rfl 92 rfl
        exact dp_v (v := (pt b153 o154)) (wanted_none _ rfl _) (rv_ix Try.underlying23 ti34 e91 e92 hi152) rfl hJ)) ?_
      refine all_cons (by
        refine ⟨?_, ?_⟩
        ·intro _nm ρ σm hJ hoff hdep
         have e93 : look 178 ρ 93 = (pt b153 o154) := hdep 6 rfl rfl 93 rfl
         obtain ⟨H, m⟩ := id hJ
         replace hc156 := fun j hj => m.hcell (hc156 j hj) nocov
         exact dp_v (v := (.agg #[(I x150.1), (Sl a157 x150.2.1 c158), (I x150.2.2)])) (wanted_none _ rfl _) (rv_load Try.underlying34 rfl ti34 e93 hl155 hc156) rfl hJ
        trivial) ?_
      refine all_cons (obs_v rfl (by
        intro k; intro _nm ρ σm hJ hoff hdep
        have e0 : look 178 ρ 0 = (Sl adata_0 ((data_0.set a_1.toNat (x1.1, x1.2.1, x1.2.2)).set pivot_3.toNat (x11.1, x11.2.1, x11.2.2)) cdata_0) := look_off (hoff 0 rfl) rfl
        exact dp_v (v := (Sl adata_0 ((data_0.set a_1.toNat (x1.1, x1.2.1, x1.2.2)).set pivot_3.toNat (x11.1, x11.2.1, x11.2.2)) cdata_0)) (wanted_none _ rfl _) (rv_move e0) rfl hJ)) ?_
      refine all_cons (obs_v rfl (by
        intro k; intro _nm ρ σm hJ hoff hdep
        have e12 : look 178 ρ 12 = (I o39) := look_off (hoff 12 rfl) rfl
        exact dp_v (v := (I o39)) (wanted_none _ rfl _) (rv_move e12) rfl hJ)) ?_
      refine all_cons (obs_v rfl (by
        intro k; intro _nm ρ σm hJ hoff hdep
        have e95 : look 178 ρ 95 = (Sl adata_0 ((data_0.set a_1.toNat (x1.1, x1.2.1, x1.2.2)).set pivot_3.toNat (x11.1, x11.2.1, x11.2.2)) cdata_0) := hdep 8 rfl rfl 95 rfl
        have e96 : look 178 ρ 96 = (I o39) := hdep 9 rfl rfl 96 rfl
        exact dp_v (v := (pt b163 o164)) (wanted_none _ rfl _) (rv_ix Try.underlying23 ti34 e95 e96 hi162) rfl hJ)) ?_
      refine all_cons (by
        refine ⟨?_, ?_⟩
        ·intro _nm ρ σm hJ hoff hdep
         have e97 : look 178 ρ 97 = (pt b163 o164) := hdep 10 rfl rfl 97 rfl
         obtain ⟨H, m⟩ := id hJ
         replace hc166 := fun j hj => m.hcell (hc166 j hj) nocov
         exact dp_v (v := (.agg #[(I x160.1), (Sl a167 x160.2.1 c168), (I x160.2.2)])) (wanted_none _ rfl _) (rv_load Try.underlying34 rfl ti34 e97 hl165 hc166) rfl hJ
        trivial) ?_
      refine all_cons (obs_v rfl (by
        intro k; intro _nm ρ σm hJ hoff hdep
        have e87 : look 178 ρ 87 = (Sl adata_0 ((data_0.set a_1.toNat (x1.1, x1.2.1, x1.2.2)).set pivot_3.toNat (x11.1, x11.2.1, x11.2.2)) cdata_0) := hdep 0 rfl rfl 87 rfl
        have e88 : look 178 ρ 88 = (I o39) := hdep 1 rfl rfl 88 rfl
        exact dp_v (v := (pt b173 o174)) (wanted_none _ rfl _) (rv_ix Try.underlying23 ti34 e87 e88 hi172) rfl hJ)) ?_
      refine all_cons (by
        refine ⟨?_, ?_⟩
        ·intro _nm ρ σm hJ hoff hdep
         have e99 : look 178 ρ 99 = (pt b173 o174) := hdep 12 rfl rfl 99 rfl
         have e94 : look 178 ρ 94 = (.agg #[(I x150.1), (Sl a157 x150.2.1 c158), (I x150.2.2)]) := hdep 7 rfl rfl 94 rfl
         obtain ⟨H, m⟩ := id hJ
         refine dp_exS (wanted_none _ rfl _) rfl (ex_store_own (e' := (x150.1, x150.2.1, x150.2.2)) (vs := [(I x150.1), (Sl a157 x150.2.1 c158), (I x150.2.2)]) (k := 0) H (i := 2) rfl ti34 hx171 hi172 e99 rfl e94 rfl rfl (Nat.le_of_ble_eq_true rfl) (by simp [plain]) (by rintro _ ⟨_, _, rfl, rfl, ⟨_, _, rfl, ⟨_, rfl, hR177⟩, rfl⟩⟩; exact ⟨[(I x150.1)], [(Sl a157 x150.2.1 c158), (I x150.2.2)], rfl, rfl, ⟨[(Sl a157 x150.2.1 c158)], [(I x150.2.2)], rfl, ⟨_, rfl, (H.ro 1 rfl)⟩, rfl⟩⟩)) ?_
         rintro σq ⟨H2, m2⟩
         exact ⟨_, (), rfl, ⟨H2.sel' [0, 1, 2, 3, 4, 5] rfl rfl, m.comp m2⟩, stab [0, 1, 2, 3, 4, 5, 6, 7, 8, 9, 10, 11, 12] (by kernel_rfl) ⟨rfl, rfl, rfl, rfl, rfl, rfl, rfl, rfl, rfl, rfl, rfl, rfl, rfl, trivial⟩⟩
        trivial) ?_
      exact all_nil
     ·intro _nm ρ σ178 hJ hoff hrel
      have e0 : look 178 ρ 0 = (Sl adata_0 ((data_0.set a_1.toNat (x1.1, x1.2.1, x1.2.2)).set pivot_3.toNat (x11.1, x11.2.1, x11.2.2)) cdata_0) := look_off (hoff 0 rfl) rfl
      have e1 : look 178 ρ 1 = (I a_1) := look_off (hoff 1 rfl) rfl
      have e4 : look 178 ρ 4 = (.func (.func 88) #[] #[(pt bcmp_4_0 ocmp_4_0), (pt bcmp_4_1 ocmp_4_1)]) := look_off (hoff 4 rfl) rfl
      have e12 : look 178 ρ 12 = (I o39) := look_off (hoff 12 rfl) rfl
      have e13 : look 178 ρ 13 = (I o75) := look_off (hoff 13 rfl) rfl
      have e89 : look 178 ρ 89 = (Sl adata_0 ((data_0.set a_1.toNat (x1.1, x1.2.1, x1.2.2)).set pivot_3.toNat (x11.1, x11.2.1, x11.2.2)) cdata_0) := hrel 2 rfl 89 rfl
      have e90 : look 178 ρ 90 = (I o75) := hrel 3 rfl 90 rfl
      have e98 : look 178 ρ 98 = (.agg #[(I x160.1), (Sl a167 x160.2.1 c168), (I x160.2.2)]) := hrel 11 rfl 98 rfl
      obtain ⟨H, -⟩ := (show Hp S0 σ0 σ178 [Ch.own 0 0 (Sl adata_0 ((data_0.set a_1.toNat (x1.1, x1.2.1, x1.2.2)).set pivot_3.toNat (x11.1, x11.2.1, x11.2.2)) cdata_0) (((data_0.set a_1.toNat (x1.1, x1.2.1, x1.2.2)).set pivot_3.toNat (x11.1, x11.2.1, x11.2.2)).set o39.toNat (x150.1, x150.2.1, x150.2.2)), Ch.ro 0 (Sl a167 x160.2.1 c168) x160.2.1, Ch.ro 0 (Sl a157 x150.2.1 c158) x150.2.1, Ch.bx locmp_4_0 bcmp_4_0 ocmp_4_0 [(I cmp_4_0)] precmp_4_0 sufcmp_4_0, Ch.ro 0 (Sl acmp_4_1 cmp_4_1 ccmp_4_1) cmp_4_1, Ch.bx locmp_4_1 bcmp_4_1 ocmp_4_1 [(Sl acmp_4_1 cmp_4_1 ccmp_4_1)] precmp_4_1 sufcmp_4_1] ∧ Md (fun i => (cov []) i ∨ (fun b => blk (Sl adata_0 ((data_0.set a_1.toNat (x1.1, x1.2.1, x1.2.2)).set pivot_3.toNat (x11.1, x11.2.1, x11.2.2)) cdata_0) = some b) i) σ110 σ178 from hJ)
      clear hJ Hs
      rw [fr_lookL (L := [(0, (Sl adata_0 ((data_0.set a_1.toNat (x1.1, x1.2.1, x1.2.2)).set pivot_3.toNat (x11.1, x11.2.1, x11.2.2)) cdata_0)), (1, (I a_1)), (4, (.func (.func 88) #[] #[(pt bcmp_4_0 ocmp_4_0), (pt bcmp_4_1 ocmp_4_1)])), (12, (I o39)), (13, (I o75)), (89, (Sl adata_0 ((data_0.set a_1.toNat (x1.1, x1.2.1, x1.2.2)).set pivot_3.toNat (x11.1, x11.2.1, x11.2.2)) cdata_0)), (90, (I o75)), (98, (.agg #[(I x160.1), (Sl a167 x160.2.1 c168), (I x160.2.2)]))]) ⟨e0, e1, e4, e12, e13, e89, e90, e98, trivial⟩]
      clear hoff hrel e0 e1 e4 e12 e13 e89 e90 e98
      have hsl : (Sl adata_0 ((data_0.set a_1.toNat (x1.1, x1.2.1, x1.2.2)).set pivot_3.toNat (x11.1, x11.2.1, x11.2.2)) cdata_0) = (Sl adata_0 (((data_0.set a_1.toNat (x1.1, x1.2.1, x1.2.2)).set pivot_3.toNat (x11.1, x11.2.1, x11.2.2)).set o39.toNat (x150.1, x150.2.1, x150.2.2)) cdata_0) := sl_len (by simp)
      rw [hsl]; rw [hsl] at H; clear hsl
      obtain ⟨x179, hx180, h'⟩ := bind_some h
      clear h
      have h := h'; clear h'
      obtain ⟨b182, o183, hi181, -⟩ := (H.own 0 rfl).ix hx180
      refine st (v := (pt b182 o183)) (rv_ix Try.underlying23 ti34 rfl rfl hi181) ?_
      refine st_exS (ex_store_own (e' := (x160.1, x160.2.1, x160.2.2)) (vs := [(I x160.1), (Sl a167 x160.2.1 c168), (I x160.2.2)]) (k := 0) H (i := 0) rfl ti34 hx180 hi181 rfl rfl rfl rfl rfl (Nat.le_of_ble_eq_true rfl) (by simp [plain]) (by rintro _ ⟨_, _, rfl, rfl, ⟨_, _, rfl, ⟨_, rfl, hR186⟩, rfl⟩⟩; exact ⟨[(I x160.1)], [(Sl a167 x160.2.1 c168), (I x160.2.2)], rfl, rfl, ⟨[(Sl a167 x160.2.1 c168)], [(I x160.2.2)], rfl, ⟨_, rfl, (H.ro 1 rfl)⟩, rfl⟩⟩)) (wanted_none _ rfl _) ?_
      rintro σ187 ⟨H, -⟩
      have hsl : (Sl adata_0 (((data_0.set a_1.toNat (x1.1, x1.2.1, x1.2.2)).set pivot_3.toNat (x11.1, x11.2.1, x11.2.2)).set o39.toNat (x150.1, x150.2.1, x150.2.2)) cdata_0) = (Sl adata_0 ((((data_0.set a_1.toNat (x1.1, x1.2.1, x1.2.2)).set pivot_3.toNat (x11.1, x11.2.1, x11.2.2)).set o39.toNat (x150.1, x150.2.1, x150.2.2)).set o75.toNat (x160.1, x160.2.1, x160.2.2)) cdata_0) := sl_len List.length_set.symm
      rw [hsl]; rw [hsl] at H; clear hsl
      refine w_end ?_
      refine q_then ?_
      refine c_seq ?_
      refine rg ?_
      refine st (v := (I o39)) (rv_move rfl) ?_
      refine st (v := (I (w64 (o39 + 1)))) (rv_add (a := o39) (b := 1) rfl rfl) ?_
      refine st (v := (I (w64 (o39 + 1)))) (rv_assign rfl) ?_
      refine w_end ?_
      refine q_then ?_
      refine c_seq ?_
      refine rg ?_
      refine st (v := (I o75)) (rv_move rfl) ?_
      refine st (v := (I (w64 (o75 - 1)))) (rv_sub (a := o75) (b := 1) rfl rfl) ?_
      refine st (v := (I (w64 (o75 - 1)))) (rv_assign rfl) ?_
      refine w_end ?_
      refine q_then ?_
      refine c_seq ?_
      obtain ⟨o188, hj, h'⟩ := bind_some h
      clear h
      refine c_cut (fun e a w => e = .normal ∧ ∃ (ρ : Nat → Value) (σ : St), a = fr 178 (updL ρ [(0, (Sl adata_0 o188.1 cdata_0)), (1, (I a_1)), (4, (.func (.func 88) #[] #[(pt bcmp_4_0 ocmp_4_0), (pt bcmp_4_1 ocmp_4_1)])), (13, (I o188.2))]) ∧ w = σ.w ∧ Hp S0 σ0 σ [Ch.own 0 0 (Sl adata_0 o188.1 cdata_0) o188.1, Ch.bx locmp_4_0 bcmp_4_0 ocmp_4_0 [(I cmp_4_0)] precmp_4_0 sufcmp_4_0, Ch.ro 0 (Sl acmp_4_1 cmp_4_1 ccmp_4_1) cmp_4_1, Ch.bx locmp_4_1 bcmp_4_1 ocmp_4_1 [(Sl acmp_4_1 cmp_4_1 ccmp_4_1)] precmp_4_1 sufcmp_4_1] ∧ o188.1.length = ((((data_0.set a_1.toNat (x1.1, x1.2.1, x1.2.2)).set pivot_3.toNat (x11.1, x11.2.1, x11.2.2)).set o39.toNat (x150.1, x150.2.1, x150.2.2)).set o75.toNat (x160.1, x160.2.1, x160.2.2)).length) ?_ ?_
      ·clear h'
       rename _ = some o188 => h
       refine c_blk ?_
       refine wp_loopM _ h (fun s189 a w => ∃ (ρ : Nat → Value) (σ : St), a = fr 178 (updL ρ [(0, (Sl adata_0 s189.1 cdata_0)), (1, (I a_1)), (4, (.func (.func 88) #[] #[(pt bcmp_4_0 ocmp_4_0), (pt bcmp_4_1 ocmp_4_1)])), (12, (I s189.2.1)), (13, (I s189.2.2))]) ∧ w = σ.w ∧ Hp S0 σ0 σ [Ch.own 0 0 (Sl adata_0 s189.1 cdata_0) s189.1, Ch.bx locmp_4_0 bcmp_4_0 ocmp_4_0 [(I cmp_4_0)] precmp_4_0 sufcmp_4_0, Ch.ro 0 (Sl acmp_4_1 cmp_4_1 ccmp_4_1) cmp_4_1, Ch.bx locmp_4_1 bcmp_4_1 ocmp_4_1 [(Sl acmp_4_1 cmp_4_1 ccmp_4_1)] precmp_4_1 sufcmp_4_1] ∧ s189.1.length = ((((data_0.set a_1.toNat (x1.1, x1.2.1, x1.2.2)).set pivot_3.toNat (x11.1, x11.2.1, x11.2.2)).set o39.toNat (x150.1, x150.2.1, x150.2.2)).set o75.toNat (x160.1, x160.2.1, x160.2.2)).length) ⟨_, σ187, fr_join ⟨rfl, rfl, rfl, rfl, rfl, trivial⟩, rfl, H.sel' [0, 3, 4, 5] rfl rfl, rfl⟩ ?_
       clear h H
       rintro s189 a w o ⟨ρ, σ190, rfl, rfl, H, hn191⟩ h hres
       refine c_blk ?_
       refine c_seq ?_
       obtain ⟨o192, hj, h'⟩ := bind_some h
       clear h
       refine c_cut (fun e a w => e = .normal ∧ ∃ (ρ : Nat → Value) (σ : St), a = fr 178 (updL ρ [(0, (Sl adata_0 s189.1 cdata_0)), (1, (I a_1)), (4, (.func (.func 88) #[] #[(pt bcmp_4_0 ocmp_4_0), (pt bcmp_4_1 ocmp_4_1)])), (12, (I o192)), (13, (I s189.2.2))]) ∧ w = σ.w ∧ Hp S0 σ0 σ [Ch.own 0 0 (Sl adata_0 s189.1 cdata_0) s189.1, Ch.bx locmp_4_0 bcmp_4_0 ocmp_4_0 [(I cmp_4_0)] precmp_4_0 sufcmp_4_0, Ch.ro 0 (Sl acmp_4_1 cmp_4_1 ccmp_4_1) cmp_4_1, Ch.bx locmp_4_1 bcmp_4_1 ocmp_4_1 [(Sl acmp_4_1 cmp_4_1 ccmp_4_1)] precmp_4_1 sufcmp_4_1]) ?_ ?_
       ·clear h'
        rename _ = some o192 => h
        refine c_blk ?_
        refine wp_loopM _ h (fun s193 a w => ∃ (ρ : Nat → Value) (σ : St), a = fr 178 (updL ρ [(0, (Sl adata_0 s189.1 cdata_0)), (1, (I a_1)), (4, (.func (.func 88) #[] #[(pt bcmp_4_0 ocmp_4_0), (pt bcmp_4_1 ocmp_4_1)])), (12, (I s193)), (13, (I s189.2.2))]) ∧ w = σ.w ∧ Hp S0 σ0 σ [Ch.own 0 0 (Sl adata_0 s189.1 cdata_0) s189.1, Ch.bx locmp_4_0 bcmp_4_0 ocmp_4_0 [(I cmp_4_0)] precmp_4_0 sufcmp_4_0, Ch.ro 0 (Sl acmp_4_1 cmp_4_1 ccmp_4_1) cmp_4_1, Ch.bx locmp_4_1 bcmp_4_1 ocmp_4_1 [(Sl acmp_4_1 cmp_4_1 ccmp_4_1)] precmp_4_1 sufcmp_4_1]) ⟨_, σ190, fr_join ⟨rfl, rfl, rfl, rfl, rfl, trivial⟩, rfl, H.sel' [0, 1, 2, 3] rfl rfl⟩ ?_
        clear h H
        rintro s193 a w o ⟨ρ, σ194, rfl, rfl, H⟩ h hres
        refine c_seq ?_
        refine c_seq ?_
        obtain ⟨o195, hj, h'⟩ := bind_some h
        clear h
        refine c_cut (fun e a w => e = .normal ∧ ∃ (ρ : Nat → Value) (σ : St), a = fr 178 (updL ρ [(0, (Sl adata_0 s189.1 cdata_0)), (1, (I a_1)), (4, (.func (.func 88) #[] #[(pt bcmp_4_0 ocmp_4_0), (pt bcmp_4_1 ocmp_4_1)])), (12, (I s193)), (13, (I s189.2.2)), (120, (B o195))]) ∧ w = σ.w ∧ Hp S0 σ0 σ [Ch.own 0 0 (Sl adata_0 s189.1 cdata_0) s189.1, Ch.bx locmp_4_0 bcmp_4_0 ocmp_4_0 [(I cmp_4_0)] precmp_4_0 sufcmp_4_0, Ch.ro 0 (Sl acmp_4_1 cmp_4_1 ccmp_4_1) cmp_4_1, Ch.bx locmp_4_1 bcmp_4_1 ocmp_4_1 [(Sl acmp_4_1 cmp_4_1 ccmp_4_1)] precmp_4_1 sufcmp_4_1]) ?_ ?_
        ·clear h'
         rename _ = some o195 => h
         refine rgP (σ := σ194) 13 (by kernel_rfl) (by kernel_rfl) (by kernel_rfl) ?_
         refine sq (v := (I s193)) (rv_move rfl) ?_
         refine sq (v := (I s189.2.2)) (rv_move rfl) ?_
         refine sq (v := (B (decide (s193 ≤ s189.2.2)))) (rv_leq (a := s193) (b := s189.2.2) rfl rfl) ?_
         refine sq (v := (B (decide (s193 ≤ s189.2.2)))) (rv_move rfl) ?_
         rcases Bool.eq_false_or_eq_true (decide (s193 ≤ s189.2.2)) with hb196 | hb196
         ·replace h := bif_t hb196 h
          refine sq_g (v := (.func (.func 88) #[] #[(pt bcmp_4_0 ocmp_4_0), (pt bcmp_4_1 ocmp_4_1)])) (congrArg some hb196) (rv_move rfl) ?_
          refine sq_g (v := (Sl adata_0 s189.1 cdata_0)) (congrArg some hb196) (rv_move rfl) ?_
          refine sq_g (v := (I s193)) (congrArg some hb196) (rv_move rfl) ?_
          obtain ⟨x197, hx198, h'⟩ := bind_some h
          clear h
          have h := h'; clear h'
          obtain ⟨b200, o201, hi199, -⟩ := (H.own 0 rfl).ix hx198
          refine sq_g (v := (pt b200 o201)) (congrArg some hb196) (rv_ix Try.underlying23 ti34 rfl rfl hi199) ?_
          obtain ⟨_, ⟨_, _, rfl, rfl, ⟨_, _, rfl, ⟨_, rfl, hR206⟩, rfl⟩⟩, hl202, hc203⟩ := ((H.own 0 rfl).at hx198 hi199).cells
          obtain ⟨a204, c205, rfl⟩ := hR206.isSl
          replace H := H.add (d := Ch.ro 0 (Sl a204 x197.2.1 c205) x197.2.1) hR206 (fun _ h => h)
          clear hR206
          refine sq_g (v := (.agg #[(I x197.1), (Sl a204 x197.2.1 c205), (I x197.2.2)])) (congrArg some hb196) (rv_load Try.underlying34 rfl ti34 rfl hl202 hc203) ?_
          refine sq_g (v := (Sl adata_0 s189.1 cdata_0)) (congrArg some hb196) (rv_move rfl) ?_
          refine sq_g (v := (I a_1)) (congrArg some hb196) (rv_move rfl) ?_
          obtain ⟨x207, hx208, h'⟩ := bind_some h
          clear h
          have h := h'; clear h'
          obtain ⟨b210, o211, hi209, -⟩ := (H.own 1 rfl).ix hx208
          refine sq_g (v := (pt b210 o211)) (congrArg some hb196) (rv_ix Try.underlying23 ti34 rfl rfl hi209) ?_
          obtain ⟨_, ⟨_, _, rfl, rfl, ⟨_, _, rfl, ⟨_, rfl, hR216⟩, rfl⟩⟩, hl212, hc213⟩ := ((H.own 1 rfl).at hx208 hi209).cells
          obtain ⟨a214, c215, rfl⟩ := hR216.isSl
          replace H := H.add (d := Ch.ro 0 (Sl a214 x207.2.1 c215) x207.2.1) hR216 (fun _ h => h)
          clear hR216
          refine sq_g (v := (.agg #[(I x207.1), (Sl a214 x207.2.1 c215), (I x207.2.2)])) (congrArg some hb196) (rv_load Try.underlying34 rfl ti34 rfl hl212 hc213) ?_
          refine sq_end ?_
          intro σ217 hm218
          replace H := H.grow (hm218.mono fun _ h => h); clear hm218
          obtain ⟨r219, hx220, h'⟩ := bind_some h
          clear h
          have h := h'; clear h'
          have hc221 := c_impl_sortByDistance_1__p3__p24 (ax_0_1 := a204) (cx_0_1 := c205) (ay_1_1 := a214) (cy_1_1 := c215) (lop_2 := locmp_4_0) (bp_2 := bcmp_4_0) (op_2 := ocmp_4_0) (prep_2 := precmp_4_0) (sufp_2 := sufcmp_4_0) (lop_3 := locmp_4_1) (bp_3 := bcmp_4_1) (op_3 := ocmp_4_1) (prep_3 := precmp_4_1) (sufp_3 := sufcmp_4_1) (ap_3 := acmp_4_1) (cp_3 := ccmp_4_1) hx220
          refine st_call (cx_call hc221 (ent_v (cap := [(pt bcmp_4_0 ocmp_4_0), (pt bcmp_4_1 ocmp_4_1)]) hc221.fn rfl rfl) hn0 (H.sel' [1, 0, 3, 5, 4, 0, 1, 2, 4] rfl rfl : Hp S0 σ0 _ ([_, _, _, _, _] ++ _))) (wanted_yes rfl (by exact (congrArg some hb196))) ?_
          rintro _ σ222 ⟨_, ⟨rfl, rfl⟩, H, -⟩
          replace H : Hp S0 σ0 σ222 [Ch.bx locmp_4_0 bcmp_4_0 ocmp_4_0 [(I cmp_4_0)] precmp_4_0 sufcmp_4_0, Ch.bx locmp_4_1 bcmp_4_1 ocmp_4_1 [(Sl acmp_4_1 cmp_4_1 ccmp_4_1)] precmp_4_1 sufcmp_4_1, Ch.ro 0 (Sl a214 x207.2.1 c215) x207.2.1, Ch.ro 0 (Sl a204 x197.2.1 c205) x197.2.1, Ch.own 0 0 (Sl adata_0 s189.1 cdata_0) s189.1, Ch.ro 0 (Sl acmp_4_1 cmp_4_1 ccmp_4_1) cmp_4_1] := H
          refine st_g (v := (B (decide (r219 < 0)))) (congrArg some hb196) (rv_lss (a := r219) (b := 0) rfl rfl) ?_
          refine st (v := (B (decide (r219 < 0)))) (rv_pick_t (congrArg B hb196) rfl) ?_
          refine w_end ?_
          obtain rfl := Option.some.inj h
          exact ⟨rfl, _, σ222, fr_join ⟨rfl, rfl, rfl, rfl, rfl, rfl, trivial⟩, rfl, H.sel' [4, 0, 5, 1] rfl rfl⟩
         ·replace h := bif_f hb196 h
          refine sq_skip (congrArg some hb196) ?_
          refine sq_skip (congrArg some hb196) ?_
          refine sq_skip (congrArg some hb196) ?_
          refine sq_skip (congrArg some hb196) ?_
          refine sq_skip (congrArg some hb196) ?_
          refine sq_skip (congrArg some hb196) ?_
          refine sq_skip (congrArg some hb196) ?_
          refine sq_skip (congrArg some hb196) ?_
          refine sq_skip (congrArg some hb196) ?_
          refine sq_end ?_
          intro σ223 hm224
          replace H := H.grow (hm224.mono fun _ h => h); clear hm224
          refine st_skip (congrArg some hb196) ?_
          refine st_skip (congrArg some hb196) ?_
          refine st (v := (B false)) (rv_pick_f (congrArg B hb196) rfl) ?_
          refine w_end ?_
          obtain rfl := Option.some.inj h
          exact ⟨rfl, _, σ223, fr_join ⟨rfl, rfl, rfl, rfl, rfl, rfl, trivial⟩, rfl, H.sel' [0, 1, 2, 3] rfl rfl⟩
        ·clear hj
         have h := h'
         clear h' H
         rintro e a w ⟨rfl, ρ, σ225, rfl, rfl, H⟩
         refine q_then ?_
         refine cd_cond o195 rfl (fun hb226 => ?_) (fun hb226 => ?_)
         ·replace h := bif_t hb226 h
          refine c_skip ?_
          refine q_then ?_
          refine c_blk ?_
          refine rg ?_
          refine st (v := (I s193)) (rv_move rfl) ?_
          refine st (v := (I (w64 (s193 + 1)))) (rv_add (a := s193) (b := 1) rfl rfl) ?_
          refine st (v := (I (w64 (s193 + 1)))) (rv_assign rfl) ?_
          refine w_end ?_
          refine q_blk ?_
          refine q_then ?_
          obtain rfl := Option.some.inj h
          exact ⟨_, rfl, _, σ225, fr_join ⟨rfl, rfl, rfl, rfl, rfl, trivial⟩, rfl, H.sel' [0, 1, 2, 3] rfl rfl⟩
         ·replace h := bif_f hb226 h
          refine c_exit ?_
          refine q_then_x ?_
          refine q_then_x ?_
          refine q_blk_hit ?_
          obtain rfl := Option.some.inj h
          obtain rfl := hres _ rfl
          exact ⟨rfl, _, σ225, fr_join ⟨rfl, rfl, rfl, rfl, rfl, trivial⟩, rfl, H.sel' [0, 1, 2, 3] rfl rfl⟩
       ·clear hj
        have h := h'
        clear h' H
        rintro e a w ⟨rfl, ρ, σ227, rfl, rfl, H⟩
        refine q_then ?_
        refine c_seq ?_
        obtain ⟨o228, hj, h'⟩ := bind_some h
        clear h
        refine c_cut (fun e a w => e = .normal ∧ ∃ (ρ : Nat → Value) (σ : St), a = fr 178 (updL ρ [(0, (Sl adata_0 s189.1 cdata_0)), (1, (I a_1)), (4, (.func (.func 88) #[] #[(pt bcmp_4_0 ocmp_4_0), (pt bcmp_4_1 ocmp_4_1)])), (12, (I o192)), (13, (I o228))]) ∧ w = σ.w ∧ Hp S0 σ0 σ [Ch.own 0 0 (Sl adata_0 s189.1 cdata_0) s189.1, Ch.bx locmp_4_0 bcmp_4_0 ocmp_4_0 [(I cmp_4_0)] precmp_4_0 sufcmp_4_0, Ch.ro 0 (Sl acmp_4_1 cmp_4_1 ccmp_4_1) cmp_4_1, Ch.bx locmp_4_1 bcmp_4_1 ocmp_4_1 [(Sl acmp_4_1 cmp_4_1 ccmp_4_1)] precmp_4_1 sufcmp_4_1]) ?_ ?_
        ·clear h'
         rename _ = some o228 => h
         refine c_blk ?_
         refine wp_loopM _ h (fun s229 a w => ∃ (ρ : Nat → Value) (σ : St), a = fr 178 (updL ρ [(0, (Sl adata_0 s189.1 cdata_0)), (1, (I a_1)), (4, (.func (.func 88) #[] #[(pt bcmp_4_0 ocmp_4_0), (pt bcmp_4_1 ocmp_4_1)])), (12, (I o192)), (13, (I s229))]) ∧ w = σ.w ∧ Hp S0 σ0 σ [Ch.own 0 0 (Sl adata_0 s189.1 cdata_0) s189.1, Ch.bx locmp_4_0 bcmp_4_0 ocmp_4_0 [(I cmp_4_0)] precmp_4_0 sufcmp_4_0, Ch.ro 0 (Sl acmp_4_1 cmp_4_1 ccmp_4_1) cmp_4_1, Ch.bx locmp_4_1 bcmp_4_1 ocmp_4_1 [(Sl acmp_4_1 cmp_4_1 ccmp_4_1)] precmp_4_1 sufcmp_4_1]) ⟨_, σ227, fr_join ⟨rfl, rfl, rfl, rfl, rfl, trivial⟩, rfl, H.sel' [0, 1, 2, 3] rfl rfl⟩ ?_
         clear h H
         rintro s229 a w o ⟨ρ, σ230, rfl, rfl, H⟩ h hres
         refine c_seq ?_
         refine c_seq ?_
         obtain ⟨o231, hj, h'⟩ := bind_some h
         clear h
         refine c_cut (fun e a w => e = .normal ∧ ∃ (ρ : Nat → Value) (σ : St), a = fr 178 (updL ρ [(0, (Sl adata_0 s189.1 cdata_0)), (1, (I a_1)), (4, (.func (.func 88) #[] #[(pt bcmp_4_0 ocmp_4_0), (pt bcmp_4_1 ocmp_4_1)])), (12, (I o192)), (13, (I s229)), (139, (B o231))]) ∧ w = σ.w ∧ Hp S0 σ0 σ [Ch.own 0 0 (Sl adata_0 s189.1 cdata_0) s189.1, Ch.bx locmp_4_0 bcmp_4_0 ocmp_4_0 [(I cmp_4_0)] precmp_4_0 sufcmp_4_0, Ch.ro 0 (Sl acmp_4_1 cmp_4_1 ccmp_4_1) cmp_4_1, Ch.bx locmp_4_1 bcmp_4_1 ocmp_4_1 [(Sl acmp_4_1 cmp_4_1 ccmp_4_1)] precmp_4_1 sufcmp_4_1]) ?_ ?_
         ·clear h'
          rename _ = some o231 => h
          refine rgP (σ := σ230) 13 (by kernel_rfl) (by kernel_rfl) (by kernel_rfl) ?_
          refine sq (v := (I o192)) (rv_move rfl) ?_
          refine sq (v := (I s229)) (rv_move rfl) ?_
          refine sq (v := (B (decide (o192 ≤ s229)))) (rv_leq (a := o192) (b := s229) rfl rfl) ?_
          refine sq (v := (B (decide (o192 ≤ s229)))) (rv_move rfl) ?_
          rcases Bool.eq_false_or_eq_true (decide (o192 ≤ s229)) with hb232 | hb232
          ·replace h := bif_t hb232 h
           refine sq_g (v := (.func (.func 88) #[] #[(pt bcmp_4_0 ocmp_4_0), (pt bcmp_4_1 ocmp_4_1)])) (congrArg some hb232) (rv_move rfl) ?_
           refine sq_g (v := (Sl adata_0 s189.1 cdata_0)) (congrArg some hb232) (rv_move rfl) ?_
           refine sq_g (v := (I s229)) (congrArg some hb232) (rv_move rfl) ?_
           obtain ⟨x233, hx234, h'⟩ := bind_some h
           clear h
           have h := h'; clear h'
           obtain ⟨b236, o237, hi235, -⟩ := (H.own 0 rfl).ix hx234
           refine sq_g (v := (pt b236 o237)) (congrArg some hb232) (rv_ix Try.underlying23 ti34 rfl rfl hi235) ?_
           obtain ⟨_, ⟨_, _, rfl, rfl, ⟨_, _, rfl, ⟨_, rfl, hR242⟩, rfl⟩⟩, hl238, hc239⟩ := ((H.own 0 rfl).at hx234 hi235).cells
           obtain ⟨a240, c241, rfl⟩ := hR242.isSl
           replace H := H.add (d := Ch.ro 0 (Sl a240 x233.2.1 c241) x233.2.1) hR242 (fun _ h => h)
           clear hR242
           refine sq_g (v := (.agg #[(I x233.1), (Sl a240 x233.2.1 c241), (I x233.2.2)])) (congrArg some hb232) (rv_load Try.underlying34 rfl ti34 rfl hl238 hc239) ?_
           refine sq_g (v := (Sl adata_0 s189.1 cdata_0)) (congrArg some hb232) (rv_move rfl) ?_
           refine sq_g (v := (I a_1)) (congrArg some hb232) (rv_move rfl) ?_
           obtain ⟨x243, hx244, h'⟩ := bind_some h
           clear h
           have h := h'; clear h'
           obtain ⟨b246, o247, hi245, -⟩ := (H.own 1 rfl).ix hx244
           refine sq_g (v := (pt b246 o247)) (congrArg some hb232) (rv_ix Try.underlying23 ti34 rfl rfl hi245) ?_
           obtain ⟨_, ⟨_, _, rfl, rfl, ⟨_, _, rfl, ⟨_, rfl, hR252⟩, rfl⟩⟩, hl248, hc249⟩ := ((H.own 1 rfl).at hx244 hi245).cells
           obtain ⟨a250, c251, rfl⟩ := hR252.isSl
           replace H := H.add (d := Ch.ro 0 (Sl a250 x243.2.1 c251) x243.2.1) hR252 (fun _ h => h)
           clear hR252
           refine sq_g (v := (.agg #[(I x243.1), (Sl a250 x243.2.1 c251), (I x243.2.2)])) (congrArg some hb232) (rv_load Try.underlying34 rfl ti34 rfl hl248 hc249) ?_
           refine sq_end ?_
           intro σ253 hm254
           replace H := H.grow (hm254.mono fun _ h => h); clear hm254
           obtain ⟨r255, hx256, h'⟩ := bind_some h
           clear h
           have h := h'; clear h'
           have hc257 := c_impl_sortByDistance_1__p3__p24 (ax_0_1 := a240) (cx_0_1 := c241) (ay_1_1 := a250) (cy_1_1 := c251) (lop_2 := locmp_4_0) (bp_2 := bcmp_4_0) (op_2 := ocmp_4_0) (prep_2 := precmp_4_0) (sufp_2 := sufcmp_4_0) (lop_3 := locmp_4_1) (bp_3 := bcmp_4_1) (op_3 := ocmp_4_1) (prep_3 := precmp_4_1) (sufp_3 := sufcmp_4_1) (ap_3 := acmp_4_1) (cp_3 := ccmp_4_1) hx256
           refine st_call (cx_call hc257 (ent_v (cap := [(pt bcmp_4_0 ocmp_4_0), (pt bcmp_4_1 ocmp_4_1)]) hc257.fn rfl rfl) hn0 (H.sel' [1, 0, 3, 5, 4, 0, 1, 2, 4] rfl rfl : Hp S0 σ0 _ ([_, _, _, _, _] ++ _))) (wanted_yes rfl (by exact (congrArg some hb232))) ?_
           rintro _ σ258 ⟨_, ⟨rfl, rfl⟩, H, -⟩
           replace H : Hp S0 σ0 σ258 [Ch.bx locmp_4_0 bcmp_4_0 ocmp_4_0 [(I cmp_4_0)] precmp_4_0 sufcmp_4_0, Ch.bx locmp_4_1 bcmp_4_1 ocmp_4_1 [(Sl acmp_4_1 cmp_4_1 ccmp_4_1)] precmp_4_1 sufcmp_4_1, Ch.ro 0 (Sl a250 x243.2.1 c251) x243.2.1, Ch.ro 0 (Sl a240 x233.2.1 c241) x233.2.1, Ch.own 0 0 (Sl adata_0 s189.1 cdata_0) s189.1, Ch.ro 0 (Sl acmp_4_1 cmp_4_1 ccmp_4_1) cmp_4_1] := H
           refine st_g (v := (B (decide (r255 < 0)))) (congrArg some hb232) (rv_lss (a := r255) (b := 0) rfl rfl) ?_
           refine st_g (v := (B (!(decide (r255 < 0))))) (congrArg some hb232) (rv_not rfl) ?_
           refine st (v := (B (!(decide (r255 < 0))))) (rv_pick_t (congrArg B hb232) rfl) ?_
           refine w_end ?_
           obtain rfl := Option.some.inj h
           exact ⟨rfl, _, σ258, fr_join ⟨rfl, rfl, rfl, rfl, rfl, rfl, trivial⟩, rfl, H.sel' [4, 0, 5, 1] rfl rfl⟩
          ·replace h := bif_f hb232 h
           refine sq_skip (congrArg some hb232) ?_
           refine sq_skip (congrArg some hb232) ?_
           refine sq_skip (congrArg some hb232) ?_
           refine sq_skip (congrArg some hb232) ?_
           refine sq_skip (congrArg some hb232) ?_
           refine sq_skip (congrArg some hb232) ?_
           refine sq_skip (congrArg some hb232) ?_
           refine sq_skip (congrArg some hb232) ?_
           refine sq_skip (congrArg some hb232) ?_
           refine sq_end ?_
           intro σ259 hm260
           replace H := H.grow (hm260.mono fun _ h => h); clear hm260
           refine st_skip (congrArg some hb232) ?_
           refine st_skip (congrArg some hb232) ?_
           refine st_skip (congrArg some hb232) ?_
           refine st (v := (B false)) (rv_pick_f (congrArg B hb232) rfl) ?_
           refine w_end ?_
           obtain rfl := Option.some.inj h
           exact ⟨rfl, _, σ259, fr_join ⟨rfl, rfl, rfl, rfl, rfl, rfl, trivial⟩, rfl, H.sel' [0, 1, 2, 3] rfl rfl⟩
         ·clear hj
          have h := h'
          clear h' H
          rintro e a w ⟨rfl, ρ, σ261, rfl, rfl, H⟩
          refine q_then ?_
          refine cd_cond o231 rfl (fun hb262 => ?_) (fun hb262 => ?_)
          ·replace h := bif_t hb262 h
           refine c_skip ?_
           refine q_then ?_
           refine c_blk ?_
           refine rg ?_
           refine st (v := (I s229)) (rv_move rfl) ?_
           refine st (v := (I (w64 (s229 - 1)))) (rv_sub (a := s229) (b := 1) rfl rfl) ?_
           refine st (v := (I (w64 (s229 - 1)))) (rv_assign rfl) ?_
           refine w_end ?_
           refine q_blk ?_
           refine q_then ?_
           obtain rfl := Option.some.inj h
           exact ⟨_, rfl, _, σ261, fr_join ⟨rfl, rfl, rfl, rfl, rfl, trivial⟩, rfl, H.sel' [0, 1, 2, 3] rfl rfl⟩
          ·replace h := bif_f hb262 h
           refine c_exit ?_
           refine q_then_x ?_
           refine q_then_x ?_
           refine q_blk_hit ?_
           obtain rfl := Option.some.inj h
           obtain rfl := hres _ rfl
           exact ⟨rfl, _, σ261, fr_join ⟨rfl, rfl, rfl, rfl, rfl, trivial⟩, rfl, H.sel' [0, 1, 2, 3] rfl rfl⟩
        ·clear hj
         have h := h'
         clear h' H
         rintro e a w ⟨rfl, ρ, σ263, rfl, rfl, H⟩
         refine q_then ?_
         refine c_seq ?_
         refine c_seq ?_
         refine rg ?_
         refine st (v := (I o192)) (rv_move rfl) ?_
         refine st (v := (I o228)) (rv_move rfl) ?_
         refine st (v := (B (decide (o228 < o192)))) (rv_gtr (a := o192) (b := o228) rfl rfl) ?_
         refine w_end ?_
         refine q_then ?_
         refine cd_cond (decide (o228 < o192)) rfl (fun hb264 => ?_) (fun hb264 => ?_)
         ·replace h := bif_t hb264 h
          refine c_exit ?_
          refine q_then_x ?_
          refine q_blk_x (by decide) ?_
          refine q_then_x ?_
          refine q_blk_hit ?_
          obtain rfl := Option.some.inj h
          obtain rfl := hres _ rfl
          exact ⟨rfl, _, σ263, fr_join ⟨rfl, rfl, rfl, rfl, trivial⟩, rfl, H.sel' [0, 1, 2, 3] rfl rfl, ((hn191.trans (List.length_set.trans (List.length_set.trans (List.length_set.trans List.length_set)))).trans (List.length_set.trans (List.length_set.trans (List.length_set.trans List.length_set))).symm)⟩
         ·replace h := bif_f hb264 h
          refine c_skip ?_
          refine q_then ?_
          refine c_seq ?_
          obtain ⟨x265, hx266, h'⟩ := bind_some h
          clear h
          have h := h'; clear h'
          obtain ⟨b268, o269, hi267, -⟩ := (H.own 0 rfl).ix hx266
          obtain ⟨_, ⟨_, _, rfl, rfl, ⟨_, _, rfl, ⟨_, rfl, hR274⟩, rfl⟩⟩, hl270, hc271⟩ := ((H.own 0 rfl).at hx266 hi267).cells
          obtain ⟨a272, c273, rfl⟩ := hR274.isSl
          replace H := H.add (d := Ch.ro 0 (Sl a272 x265.2.1 c273) x265.2.1) hR274 (fun _ h => h)
          clear hR274
          obtain ⟨x275, hx276, h'⟩ := bind_some h
          clear h
          have h := h'; clear h'
          obtain ⟨b278, o279, hi277, -⟩ := (H.own 1 rfl).ix hx276
          obtain ⟨_, ⟨_, _, rfl, rfl, ⟨_, _, rfl, ⟨_, rfl, hR284⟩, rfl⟩⟩, hl280, hc281⟩ := ((H.own 1 rfl).at hx276 hi277).cells
          obtain ⟨a282, c283, rfl⟩ := hR284.isSl
          replace H := H.add (d := Ch.ro 0 (Sl a282 x275.2.1 c283) x275.2.1) hR284 (fun _ h => h)
          clear hR284
          obtain ⟨x285, hx286, h'⟩ := bind_some h
          clear h
          have h := h'; clear h'
          obtain ⟨b288, o289, hi287, -⟩ := (H.own 2 rfl).ix hx286
          have Hs := H
          refine rg2 (σ := σ263) (Nm := Unit) 14 [13] [[false], [true]] [[(0, 0)], [(0, 0)], [(0, 0), (1, 1)], [(0, 0), (1, 1)], [(0, 0)], [(0, 0)], [(0, 0)], [(0, 0)], [(0, 0)], [(0, 0)], [(0, 0)], [(0, 0)], [(0, 0)], [(0, 1)]] 1 [fun (_nm : Unit) => fun σm => Hp S0 σ0 σm [Ch.ro 0 (Sl a282 x275.2.1 c283) x275.2.1, Ch.ro 0 (Sl a272 x265.2.1 c273) x265.2.1, Ch.own 0 0 (Sl adata_0 s189.1 cdata_0) s189.1, Ch.bx locmp_4_0 bcmp_4_0 ocmp_4_0 [(I cmp_4_0)] precmp_4_0 sufcmp_4_0, Ch.ro 0 (Sl acmp_4_1 cmp_4_1 ccmp_4_1) cmp_4_1, Ch.bx locmp_4_1 bcmp_4_1 ocmp_4_1 [(Sl acmp_4_1 cmp_4_1 ccmp_4_1)] precmp_4_1 sufcmp_4_1] ∧ Md (cov []) σ263 σm, fun (_nm : Unit) => fun σm => Hp S0 σ0 σm [Ch.own 0 0 (Sl adata_0 s189.1 cdata_0) (s189.1.set o192.toNat (x265.1, x265.2.1, x265.2.2)), Ch.ro 0 (Sl a282 x275.2.1 c283) x275.2.1, Ch.ro 0 (Sl a272 x265.2.1 c273) x265.2.1, Ch.bx locmp_4_0 bcmp_4_0 ocmp_4_0 [(I cmp_4_0)] precmp_4_0 sufcmp_4_0, Ch.ro 0 (Sl acmp_4_1 cmp_4_1 ccmp_4_1) cmp_4_1, Ch.bx locmp_4_1 bcmp_4_1 ocmp_4_1 [(Sl acmp_4_1 cmp_4_1 ccmp_4_1)] precmp_4_1 sufcmp_4_1] ∧ Md (fun i => (cov []) i ∨ (fun b => blk (Sl adata_0 s189.1 cdata_0) = some b) i) σ263 σm] [fun (_nm : Unit) => (Sl adata_0 s189.1 cdata_0), fun (_nm : Unit) => (I o192), fun (_nm : Unit) => (Sl adata_0 s189.1 cdata_0), fun (_nm : Unit) => (I o228), fun (_nm : Unit) => (Sl adata_0 s189.1 cdata_0), fun (_nm : Unit) => (I o228), fun (_nm : Unit) => (pt b268 o269), fun (_nm : Unit) => (.agg #[(I x265.1), (Sl a272 x265.2.1 c273), (I x265.2.2)]), fun (_nm : Unit) => (Sl adata_0 s189.1 cdata_0), fun (_nm : Unit) => (I o192), fun (_nm : Unit) => (pt b278 o279), fun (_nm : Unit) => (.agg #[(I x275.1), (Sl a282 x275.2.1 c283), (I x275.2.2)]), fun (_nm : Unit) => (pt b288 o289), fun (_nm : Unit) => undef] () (by kernel_rfl) (by kernel_rfl) ?_ ?_ ?_
          ·intro σm m0
           exact ⟨H.grow (m0.mono fun _ h => h.elim), m0⟩
          ·refine all_cons (obs_v rfl (by
             intro k; intro _nm ρ σm hJ hoff hdep
             have e0 : look 178 ρ 0 = (Sl adata_0 s189.1 cdata_0) := look_off (hoff 0 rfl) rfl
             exact dp_v (v := (Sl adata_0 s189.1 cdata_0)) (wanted_none _ rfl _) (rv_move e0) rfl hJ)) ?_
           refine all_cons (obs_v rfl (by
             intro k; intro _nm ρ σm hJ hoff hdep
             have e12 : look 178 ρ 12 = (I o192) := look_off (hoff 12 rfl) rfl
             exact dp_v (v := (I o192)) (wanted_none _ rfl _) (rv_move e12) rfl hJ)) ?_
           refine all_cons (obs_v rfl (by
             intro k; intro _nm ρ σm hJ hoff hdep
             have e0 : look 178 ρ 0 = (Sl adata_0 s189.1 cdata_0) := look_off (hoff 0 rfl) rfl
             exact dp_v (v := (Sl adata_0 s189.1 cdata_0)) (wanted_none _ rfl _) (rv_move e0) rfl hJ)) ?_
           refine all_cons (obs_v rfl (by
             intro k; intro _nm ρ σm hJ hoff hdep
             have e13 : look 178 ρ 13 = (I o228) := look_off (hoff 13 rfl) rfl
             exact dp_v (v := (I o228)) (wanted_none _ rfl _) (rv_move e13) rfl hJ)) ?_
           refine all_cons (obs_v rfl (by
             intro k; intro _nm ρ σm hJ hoff hdep
             have e0 : look 178 ρ 0 = (Sl adata_0 s189.1 cdata_0) := look_off (hoff 0 rfl) rfl
             exact dp_v (v := (Sl adata_0 s189.1 cdata_0)) (wanted_none _ rfl _) (rv_move e0) rfl hJ)) ?_
           refine all_cons (obs_v rfl (by
             intro k; intro _nm ρ σm hJ hoff hdep
             have e13 : look 178 ρ 13 = (I o228) := look_off (hoff 13 rfl) rfl
             exact dp_v (v := (I o228)) (wanted_none _ rfl _) (rv_move e13) rfl hJ)) ?_
           refine all_cons (obs_v rfl (by
             intro k; intro _nm ρ σm hJ hoff hdep
             have e149 : look 178 ρ 149 = (Sl adata_0 s189.1 cdata_0) := hdep 4 rfl rfl 149 rfl
             have e150 : look 178 ρ 150 = (I o228) := hdep 5 rfl rfl 150 rfl
             exact dp_v (v := (pt b268 o269)) (wanted_none _ rfl _) (rv_ix Try.underlying23 ti34 e149 e150 hi267) rfl hJ)) ?_
           refine all_cons (by
             refine ⟨?_, ?_⟩
             ·intro _nm ρ σm hJ hoff hdep
              have e151 : look 178 ρ 151 = (pt b268 o269) := hdep 6 rfl rfl 151 rfl
              obtain ⟨H, m⟩ := id hJ
              replace hc271 := fun j hj => m.hcell (hc271 j hj) nocov
              exact dp_v (v := (.agg #[(I x265.1), (Sl a272 x265.2.1 c273), (I x265.2.2)])) (wanted_none _ rfl _) (rv_load Try.underlying34 rfl ti34 e151 hl270 hc271) rfl hJ
             trivial) ?_
           refine all_cons (obs_v rfl (by
             intro k; intro _nm ρ σm hJ hoff hdep
             have e0 : look 178 ρ 0 = (Sl adata_0 s189.1 cdata_0) := look_off (hoff 0 rfl) rfl
             exact dp_v (v := (Sl adata_0 s189.1 cdata_0)) (wanted_none _ rfl _) (rv_move e0) rfl hJ)) ?_
           refine all_cons (obs_v rfl (by
             intro k; intro _nm ρ σm hJ hoff hdep
             have e12 : look 178 ρ 12 = (I o192) := look_off (hoff 12 rfl) rfl
             exact dp_v (v := (I o192)) (wanted_none _ rfl _) (rv_move e12) rfl hJ)) ?_
           refine all_cons (obs_v rfl (by
             intro k; intro _nm ρ σm hJ hoff hdep
             have e153 : look 178 ρ 153 = (Sl adata_0 s189.1 cdata_0) := hdep 8 rfl rfl 153 rfl
             have e154 : look 178 ρ 154 = (I o192) := hdep 9 rfl rfl 154 rfl
             exact dp_v (v := (pt b278 o279)) (wanted_none _ rfl _) (rv_ix Try.underlying23 ti34 e153 e154 hi277) rfl hJ)) ?_
           refine all_cons (by
             refine ⟨?_, ?_⟩
             ·intro _nm ρ σm hJ hoff hdep
              have e155 : look 178 ρ 155 = (pt b278 o279) := hdep 10 rfl rfl 155 rfl
              obtain ⟨H, m⟩ := id hJ
              replace hc281 := fun j hj => m.hcell (hc281 j hj) nocov
              exact dp_v (v := (.agg #[(I x275.1), (Sl a282 x275.2.1 c283), (I x275.2.2)])) (wanted_none _ rfl _) (rv_load Try.underlying34 rfl ti34 e155 hl280 hc281) rfl hJ
             trivial) ?_
           refine all_cons (obs_v rfl (by
             intro k; intro _nm ρ σm hJ hoff hdep
             have e145 : look 178 ρ 145 = (Sl adata_0 s189.1 cdata_0) := hdep 0 rfl rfl 145 rfl
             have e146 : look 178 ρ 146 = (I o192) := hdep 1 rfl rfl 146 rfl
             exact dp_v (v := (pt b288 o289)) (wanted_none _ rfl _) (rv_ix Try.underlying23 ti34 e145 e146 hi287) rfl hJ)) ?_
           refine all_cons (by
             refine ⟨?_, ?_⟩
             ·intro _nm ρ σm hJ hoff hdep
              have e157 : look 178 ρ 157 = (pt b288 o289) := hdep 12 rfl rfl 157 rfl
              have e152 : look 178 ρ 152 = (.agg #[(I x265.1), (Sl a272 x265.2.1 c273), (I x265.2.2)]) := hdep 7 rfl rfl 152 rfl
              obtain ⟨H, m⟩ := id hJ
              refine dp_exS (wanted_none _ rfl _) rfl (ex_store_own (e' := (x265.1, x265.2.1, x265.2.2)) (vs := [(I x265.1), (Sl a272 x265.2.1 c273), (I x265.2.2)]) (k := 0) H (i := 2) rfl ti34 hx286 hi287 e157 rfl e152 rfl rfl (Nat.le_of_ble_eq_true rfl) (by simp [plain]) (by rintro _ ⟨_, _, rfl, rfl, ⟨_, _, rfl, ⟨_, rfl, hR292⟩, rfl⟩⟩; exact ⟨[(I x265.1)], [(Sl a272 x265.2.1 c273), (I x265.2.2)], rfl, rfl, ⟨[(Sl a272 x265.2.1 c273)], [(I x265.2.2)], rfl, ⟨_, rfl, (H.ro 1 rfl)⟩, rfl⟩⟩)) ?_
              rintro σq ⟨H2, m2⟩
              exact ⟨_, (), rfl, ⟨H2.sel' [0, 1, 2, 3, 4, 5] rfl rfl, m.comp m2⟩, stab [0, 1, 2, 3, 4, 5, 6, 7, 8, 9, 10, 11, 12] (by kernel_rfl) ⟨rfl, rfl, rfl, rfl, rfl, rfl, rfl, rfl, rfl, rfl, rfl, rfl, rfl, trivial⟩⟩
             trivial) ?_
           exact all_nil
          ·intro _nm ρ σ293 hJ hoff hrel
           have e0 : look 178 ρ 0 = (Sl adata_0 s189.1 cdata_0) := look_off (hoff 0 rfl) rfl
           have e1 : look 178 ρ 1 = (I a_1) := look_off (hoff 1 rfl) rfl
           have e4 : look 178 ρ 4 = (.func (.func 88) #[] #[(pt bcmp_4_0 ocmp_4_0), (pt bcmp_4_1 ocmp_4_1)]) := look_off (hoff 4 rfl) rfl
           have e12 : look 178 ρ 12 = (I o192) := look_off (hoff 12 rfl) rfl
           have e13 : look 178 ρ 13 = (I o228) := look_off (hoff 13 rfl) rfl
           have e147 : look 178 ρ 147 = (Sl adata_0 s189.1 cdata_0) := hrel 2 rfl 147 rfl
           have e148 : look 178 ρ 148 = (I o228) := hrel 3 rfl 148 rfl
           have e156 : look 178 ρ 156 = (.agg #[(I x275.1), (Sl a282 x275.2.1 c283), (I x275.2.2)]) := hrel 11 rfl 156 rfl
           obtain ⟨H, -⟩ := (show Hp S0 σ0 σ293 [Ch.own 0 0 (Sl adata_0 s189.1 cdata_0) (s189.1.set o192.toNat (x265.1, x265.2.1, x265.2.2)), Ch.ro 0 (Sl a282 x275.2.1 c283) x275.2.1, Ch.ro 0 (Sl a272 x265.2.1 c273) x265.2.1, Ch.bx locmp_4_0 bcmp_4_0 ocmp_4_0 [(I cmp_4_0)] precmp_4_0 sufcmp_4_0, Ch.ro 0 (Sl acmp_4_1 cmp_4_1 ccmp_4_1) cmp_4_1, Ch.bx locmp_4_1 bcmp_4_1 ocmp_4_1 [(Sl acmp_4_1 cmp_4_1 ccmp_4_1)] precmp_4_1 sufcmp_4_1] ∧ Md (fun i => (cov []) i ∨ (fun b => blk (Sl adata_0 s189.1 cdata_0) = some b) i) σ263 σ293 from hJ)
           clear hJ Hs
           rw [fr_lookL (L := [(0, (Sl adata_0 s189.1 cdata_0)), (1, (I a_1)), (4, (.func (.func 88) #[] #[(pt bcmp_4_0 ocmp_4_0), (pt bcmp_4_1 ocmp_4_1)])), (12, (I o192)), (13, (I o228)), (147, (Sl adata_0 s189.1 cdata_0)), (148, (I o228)), (156, (.agg #[(I x275.1), (Sl a282 x275.2.1 c283), (I x275.2.2)]))]) ⟨e0, e1, e4, e12, e13, e147, e148, e156, trivial⟩]
           clear hoff hrel e0 e1 e4 e12 e13 e147 e148 e156
           have hsl : (Sl adata_0 s189.1 cdata_0) = (Sl adata_0 (s189.1.set o192.toNat (x265.1, x265.2.1, x265.2.2)) cdata_0) := sl_len (by simp)
           rw [hsl]; rw [hsl] at H; clear hsl
           obtain ⟨x294, hx295, h'⟩ := bind_some h
           clear h
           have h := h'; clear h'
           obtain ⟨b297, o298, hi296, -⟩ := (H.own 0 rfl).ix hx295
           refine st (v := (pt b297 o298)) (rv_ix Try.underlying23 ti34 rfl rfl hi296) ?_
           refine st_exS (ex_store_own (e' := (x275.1, x275.2.1, x275.2.2)) (vs := [(I x275.1), (Sl a282 x275.2.1 c283), (I x275.2.2)]) (k := 0) H (i := 0) rfl ti34 hx295 hi296 rfl rfl rfl rfl rfl (Nat.le_of_ble_eq_true rfl) (by simp [plain]) (by rintro _ ⟨_, _, rfl, rfl, ⟨_, _, rfl, ⟨_, rfl, hR301⟩, rfl⟩⟩; exact ⟨[(I x275.1)], [(Sl a282 x275.2.1 c283), (I x275.2.2)], rfl, rfl, ⟨[(Sl a282 x275.2.1 c283)], [(I x275.2.2)], rfl, ⟨_, rfl, (H.ro 1 rfl)⟩, rfl⟩⟩)) (wanted_none _ rfl _) ?_
           rintro σ302 ⟨H, -⟩
           have hsl : (Sl adata_0 (s189.1.set o192.toNat (x265.1, x265.2.1, x265.2.2)) cdata_0) = (Sl adata_0 ((s189.1.set o192.toNat (x265.1, x265.2.1, x265.2.2)).set o228.toNat (x275.1, x275.2.1, x275.2.2)) cdata_0) := sl_len List.length_set.symm
           rw [hsl]; rw [hsl] at H; clear hsl
           refine w_end ?_
           refine q_then ?_
           refine c_seq ?_
           refine rg ?_
           refine st (v := (I o192)) (rv_move rfl) ?_
           refine st (v := (I (w64 (o192 + 1)))) (rv_add (a := o192) (b := 1) rfl rfl) ?_
           refine st (v := (I (w64 (o192 + 1)))) (rv_assign rfl) ?_
           refine w_end ?_
           refine q_then ?_
           refine rg ?_
           refine st (v := (I o228)) (rv_move rfl) ?_
           refine st (v := (I (w64 (o228 - 1)))) (rv_sub (a := o228) (b := 1) rfl rfl) ?_
           refine st (v := (I (w64 (o228 - 1)))) (rv_assign rfl) ?_
           refine w_end ?_
           refine q_blk ?_
           refine q_then ?_
           obtain rfl := Option.some.inj h
           exact ⟨_, rfl, _, σ302, fr_join ⟨rfl, rfl, rfl, rfl, rfl, trivial⟩, rfl, H.sel' [0, 3, 4, 5] rfl rfl, ((List.length_set.trans (List.length_set.trans (hn191.trans (List.length_set.trans (List.length_set.trans (List.length_set.trans List.length_set)))))).trans (List.length_set.trans (List.length_set.trans (List.length_set.trans List.length_set))).symm)⟩
      ·clear hj
       have h := h'
       clear h' H
       rintro e a w ⟨rfl, ρ, σ303, rfl, rfl, H, hn304⟩
       refine q_then ?_
       refine c_seq ?_
       obtain ⟨x305, hx306, h'⟩ := bind_some h
       clear h
       have h := h'; clear h'
       obtain ⟨b308, o309, hi307, -⟩ := (H.own 0 rfl).ix hx306
       obtain ⟨_, ⟨_, _, rfl, rfl, ⟨_, _, rfl, ⟨_, rfl, hR314⟩, rfl⟩⟩, hl310, hc311⟩ := ((H.own 0 rfl).at hx306 hi307).cells
       obtain ⟨a312, c313, rfl⟩ := hR314.isSl
       replace H := H.add (d := Ch.ro 0 (Sl a312 x305.2.1 c313) x305.2.1) hR314 (fun _ h => h)
       clear hR314
       obtain ⟨x315, hx316, h'⟩ := bind_some h
       clear h
       have h := h'; clear h'
       obtain ⟨b318, o319, hi317, -⟩ := (H.own 1 rfl).ix hx316
       obtain ⟨_, ⟨_, _, rfl, rfl, ⟨_, _, rfl, ⟨_, rfl, hR324⟩, rfl⟩⟩, hl320, hc321⟩ := ((H.own 1 rfl).at hx316 hi317).cells
       obtain ⟨a322, c323, rfl⟩ := hR324.isSl
       replace H := H.add (d := Ch.ro 0 (Sl a322 x315.2.1 c323) x315.2.1) hR324 (fun _ h => h)
       clear hR324
       obtain ⟨x325, hx326, h'⟩ := bind_some h
       clear h
       have h := h'; clear h'
       obtain ⟨b328, o329, hi327, -⟩ := (H.own 2 rfl).ix hx326
       have Hs := H
       refine rg2 (σ := σ303) (Nm := Unit) 14 [13] [[false], [true]] [[(0, 0)], [(0, 0)], [(0, 0), (1, 1)], [(0, 0), (1, 1)], [(0, 0)], [(0, 0)], [(0, 0)], [(0, 0)], [(0, 0)], [(0, 0)], [(0, 0)], [(0, 0)], [(0, 0)], [(0, 1)]] 1 [fun (_nm : Unit) => fun σm => Hp S0 σ0 σm [Ch.ro 0 (Sl a322 x315.2.1 c323) x315.2.1, Ch.ro 0 (Sl a312 x305.2.1 c313) x305.2.1, Ch.own 0 0 (Sl adata_0 o188.1 cdata_0) o188.1, Ch.bx locmp_4_0 bcmp_4_0 ocmp_4_0 [(I cmp_4_0)] precmp_4_0 sufcmp_4_0, Ch.ro 0 (Sl acmp_4_1 cmp_4_1 ccmp_4_1) cmp_4_1, Ch.bx locmp_4_1 bcmp_4_1 ocmp_4_1 [(Sl acmp_4_1 cmp_4_1 ccmp_4_1)] precmp_4_1 sufcmp_4_1] ∧ Md (cov []) σ303 σm, fun (_nm : Unit) => fun σm => Hp S0 σ0 σm [Ch.own 0 0 (Sl adata_0 o188.1 cdata_0) (o188.1.set o188.2.toNat (x305.1, x305.2.1, x305.2.2)), Ch.ro 0 (Sl a322 x315.2.1 c323) x315.2.1, Ch.ro 0 (Sl a312 x305.2.1 c313) x305.2.1, Ch.bx locmp_4_0 bcmp_4_0 ocmp_4_0 [(I cmp_4_0)] precmp_4_0 sufcmp_4_0, Ch.ro 0 (Sl acmp_4_1 cmp_4_1 ccmp_4_1) cmp_4_1, Ch.bx locmp_4_1 bcmp_4_1 ocmp_4_1 [(Sl acmp_4_1 cmp_4_1 ccmp_4_1)] precmp_4_1 sufcmp_4_1] ∧ Md (fun i => (cov []) i ∨ (fun b => blk (Sl adata_0 o188.1 cdata_0) = some b) i) σ303 σm] [fun (_nm : Unit) => (Sl adata_0 o188.1 cdata_0), fun (_nm : Unit) => (I o188.2), fun (_nm : Unit) => (Sl adata_0 o188.1 cdata_0), fun (_nm : Unit) => (I a_1), fun (_nm : Unit) => (Sl adata_0 o188.1 cdata_0), fun (_nm : Unit) => (I a_1), fun (_nm : Unit) => (pt b308 o309), fun (_nm : Unit) => (.agg #[(I x305.1), (Sl a312 x305.2.1 c313), (I x305.2.2)]), fun (_nm : Unit) => (Sl adata_0 o188.1 cdata_0), fun (_nm : Unit) => (I o188.2), fun (_nm : Unit) => (pt b318 o319), fun (_nm : Unit) => (.agg #[(I x315.1), (Sl a322 x315.2.1 c323), (I x315.2.2)]), fun (_nm : Unit) => (pt b328 o329), fun (_nm : Unit) => undef] () (by kernel_rfl) (by kernel_rfl) ?_ ?_ ?_
       ·intro σm m0
        exact ⟨H.grow (m0.mono fun _ h => h.elim), m0⟩
       ·refine all_cons (obs_v rfl (by
          intro k; intro _nm ρ σm hJ hoff hdep
          have e0 : look 178 ρ 0 = (Sl adata_0 o188.1 cdata_0) := look_off (hoff 0 rfl) rfl
          exact dp_v (v := (Sl adata_0 o188.1 cdata_0)) (wanted_none _ rfl _) (rv_move e0) rfl hJ)) ?_
        refine all_cons (obs_v rfl (by
          intro k; intro _nm ρ σm hJ hoff hdep
          have e13 : look 178 ρ 13 = (I o188.2) := look_off (hoff 13 rfl) rfl
          exact dp_v (v := (I o188.2)) (wanted_none _ rfl _) (rv_move e13) rfl hJ)) ?_
        refine all_cons (obs_v rfl (by
          intro k; intro _nm ρ σm hJ hoff hdep
          have e0 : look 178 ρ 0 = (Sl adata_0 o188.1 cdata_0) := look_off (hoff 0 rfl) rfl
          exact dp_v (v := (Sl adata_0 o188.1 cdata_0)) (wanted_none _ rfl _) (rv_move e0) rfl hJ)) ?_
        refine all_cons (obs_v rfl (by
          intro k; intro _nm ρ σm hJ hoff hdep
          have e1 : look 178 ρ 1 = (I a_1) := look_off (hoff 1 rfl) rfl
          exact dp_v (v := (I a_1)) (wanted_none _ rfl _) (rv_move e1) rfl hJ)) ?_
        refine all_cons (obs_v rfl (by
          intro k; intro _nm ρ σm hJ hoff hdep
          have e0 : look 178 ρ 0 = (Sl adata_0 o188.1 cdata_0) := look_off (hoff 0 rfl) rfl
          exact dp_v (v := (Sl adata_0 o188.1 cdata_0)) (wanted_none _ rfl _) (rv_move e0) rfl hJ)) ?_
        refine all_cons (obs_v rfl (by
          intro k; intro _nm ρ σm hJ hoff hdep
          have e1 : look 178 ρ 1 = (I a_1) := look_off (hoff 1 rfl) rfl
          exact dp_v (v := (I a_1)) (wanted_none _ rfl _) (rv_move e1) rfl hJ)) ?_
        refine all_cons (obs_v rfl (by
          intro k; intro _nm ρ σm hJ hoff hdep
          have e167 : look 178 ρ 167 = (Sl adata_0 o188.1 cdata_0) := hdep 4 rfl rfl 167 rfl
          have e168 : look 178 ρ 168 = (I a_1) := hdep 5 rfl rfl 168 rfl
          exact dp_v (v := (pt b308 o309)) (wanted_none _ rfl _) (rv_ix Try.underlying23 ti34 e167 e168 hi307) rfl hJ)) ?_
        refine all_cons (by
          refine ⟨?_, ?_⟩
          ·intro _nm ρ σm hJ hoff hdep
           have e169 : look 178 ρ 169 = (pt b308 o309) := hdep 6 rfl rfl 169 rfl
           obtain ⟨H, m⟩ := id hJ
           replace hc311 := fun j hj => m.hcell (hc311 j hj) nocov
           exact dp_v (v := (.agg #[(I x305.1), (Sl a312 x305.2.1 c313), (I x305.2.2)])) (wanted_none _ rfl _) (rv_load Try.underlying34 rfl ti34 e169 hl310 hc311) rfl hJ
          trivial) ?_
        refine all_cons (obs_v rfl (by
          intro k; intro _nm ρ σm hJ hoff hdep
          have e0 : look 178 ρ 0 = (Sl adata_0 o188.1 cdata_0) := look_off (hoff 0 rfl) rfl
          exact dp_v (v := (Sl adata_0 o188.1 cdata_0)) (wanted_none _ rfl _) (rv_move e0) rfl hJ)) ?_
        refine all_cons (obs_v rfl (by
          intro k; intro _nm ρ σm hJ hoff hdep
          have e13 : look 178 ρ 13 = (I o188.2) := look_off (hoff 13 rfl) rfl
          exact dp_v (v := (I o188.2)) (wanted_none _ rfl _) (rv_move e13) rfl hJ)) ?_
        refine all_cons (obs_v rfl (by
          intro k; intro _nm ρ σm hJ hoff hdep
          have e171 : look 178 ρ 171 = (Sl adata_0 o188.1 cdata_0) := hdep 8 rfl rfl 171 rfl
          have e172 : look 178 ρ 172 = (I o188.2) := hdep 9 rfl rfl 172 rfl
          exact dp_v (v := (pt b318 o319)) (wanted_none _ rfl _) (rv_ix Try.underlying23 ti34 e171 e172 hi317) rfl hJ)) ?_
        refine all_cons (by
          refine ⟨?_, ?_⟩
          ·intro _nm ρ σm hJ hoff hdep
           have e173 : look 178 ρ 173 = (pt b318 o319) := hdep 10 rfl rfl 173 rfl
           obtain ⟨H, m⟩ := id hJ
           replace hc321 := fun j hj => m.hcell (hc321 j hj) nocov
           exact dp_v (v := (.agg #[(I x315.1), (Sl a322 x315.2.1 c323), (I x315.2.2)])) (wanted_none _ rfl _) (rv_load Try.underlying34 rfl ti34 e173 hl320 hc321) rfl hJ
          trivial) ?_
        refine all_cons (obs_v rfl (by
          intro k; intro _nm ρ σm hJ hoff hdep
          have e163 : look 178 ρ 163 = (Sl adata_0 o188.1 cdata_0) := hdep 0 rfl rfl 163 rfl
          have e164 : look 178 ρ 164 = (I o188.2) := hdep 1 rfl rfl 164 rfl
          exact dp_v (v := (pt b328 o329)) (wanted_none _ rfl _) (rv_ix Try.underlying23 ti34 e163 e164 hi327) rfl hJ)) ?_
        refine all_cons (by
          refine ⟨?_, ?_⟩
          ·intro _nm ρ σm hJ hoff hdep
           have e175 : look 178 ρ 175 = (pt b328 o329) := hdep 12 rfl rfl 175 rfl
           have e170 : look 178 ρ 170 = (.agg #[(I x305.1), (Sl a312 x305.2.1 c313), (I x305.2.2)]) := hdep 7 rfl rfl 170 rfl
           obtain ⟨H, m⟩ := id hJ
           refine dp_exS (wanted_none _ rfl _) rfl (ex_store_own (e' := (x305.1, x305.2.1, x305.2.2)) (vs := [(I x305.1), (Sl a312 x305.2.1 c313), (I x305.2.2)]) (k := 0) H (i := 2) rfl ti34 hx326 hi327 e175 rfl e170 rfl rfl (Nat.le_of_ble_eq_true rfl) (by simp [plain]) (by rintro _ ⟨_, _, rfl, rfl, ⟨_, _, rfl, ⟨_, rfl, hR332⟩, rfl⟩⟩; exact ⟨[(I x305.1)], [(Sl a312 x305.2.1 c313), (I x305.2.2)], rfl, rfl, ⟨[(Sl a312 x305.2.1 c313)], [(I x305.2.2)], rfl, ⟨_, rfl, (H.ro 1 rfl)⟩, rfl⟩⟩)) ?_
           rintro σq ⟨H2, m2⟩
           exact ⟨_, (), rfl, ⟨H2.sel' [0, 1, 2, 3, 4, 5] rfl rfl, m.comp m2⟩, stab [0, 1, 2, 3, 4, 5, 6, 7, 8, 9, 10, 11, 12] (by kernel_rfl) ⟨rfl, rfl, rfl, rfl, rfl, rfl, rfl, rfl, rfl, rfl, rfl, rfl, rfl, trivial⟩⟩
          trivial) ?_
        exact all_nil
       ·intro _nm ρ σ333 hJ hoff hrel
        have e0 : look 178 ρ 0 = (Sl adata_0 o188.1 cdata_0) := look_off (hoff 0 rfl) rfl
        have e4 : look 178 ρ 4 = (.func (.func 88) #[] #[(pt bcmp_4_0 ocmp_4_0), (pt bcmp_4_1 ocmp_4_1)]) := look_off (hoff 4 rfl) rfl
        have e13 : look 178 ρ 13 = (I o188.2) := look_off (hoff 13 rfl) rfl
        have e165 : look 178 ρ 165 = (Sl adata_0 o188.1 cdata_0) := hrel 2 rfl 165 rfl
        have e166 : look 178 ρ 166 = (I a_1) := hrel 3 rfl 166 rfl
        have e174 : look 178 ρ 174 = (.agg #[(I x315.1), (Sl a322 x315.2.1 c323), (I x315.2.2)]) := hrel 11 rfl 174 rfl
        obtain ⟨H, -⟩ := (show Hp S0 σ0 σ333 [Ch.own 0 0 (Sl adata_0 o188.1 cdata_0) (o188.1.set o188.2.toNat (x305.1, x305.2.1, x305.2.2)), Ch.ro 0 (Sl a322 x315.2.1 c323) x315.2.1, Ch.ro 0 (Sl a312 x305.2.1 c313) x305.2.1, Ch.bx locmp_4_0 bcmp_4_0 ocmp_4_0 [(I cmp_4_0)] precmp_4_0 sufcmp_4_0, Ch.ro 0 (Sl acmp_4_1 cmp_4_1 ccmp_4_1) cmp_4_1, Ch.bx locmp_4_1 bcmp_4_1 ocmp_4_1 [(Sl acmp_4_1 cmp_4_1 ccmp_4_1)] precmp_4_1 sufcmp_4_1] ∧ Md (fun i => (cov []) i ∨ (fun b => blk (Sl adata_0 o188.1 cdata_0) = some b) i) σ303 σ333 from hJ)
        clear hJ Hs
        rw [fr_lookL (L := [(0, (Sl adata_0 o188.1 cdata_0)), (4, (.func (.func 88) #[] #[(pt bcmp_4_0 ocmp_4_0), (pt bcmp_4_1 ocmp_4_1)])), (13, (I o188.2)), (165, (Sl adata_0 o188.1 cdata_0)), (166, (I a_1)), (174, (.agg #[(I x315.1), (Sl a322 x315.2.1 c323), (I x315.2.2)]))]) ⟨e0, e4, e13, e165, e166, e174, trivial⟩]
        clear hoff hrel e0 e4 e13 e165 e166 e174
        have hsl : (Sl adata_0 o188.1 cdata_0) = (Sl adata_0 (o188.1.set o188.2.toNat (x305.1, x305.2.1, x305.2.2)) cdata_0) := sl_len (by simp)
        rw [hsl]; rw [hsl] at H; clear hsl
        obtain ⟨x334, hx335, h'⟩ := bind_some h
        clear h
        have h := h'; clear h'
        obtain ⟨b337, o338, hi336, -⟩ := (H.own 0 rfl).ix hx335
        refine st (v := (pt b337 o338)) (rv_ix Try.underlying23 ti34 rfl rfl hi336) ?_
        refine st_exS (ex_store_own (e' := (x315.1, x315.2.1, x315.2.2)) (vs := [(I x315.1), (Sl a322 x315.2.1 c323), (I x315.2.2)]) (k := 0) H (i := 0) rfl ti34 hx335 hi336 rfl rfl rfl rfl rfl (Nat.le_of_ble_eq_true rfl) (by simp [plain]) (by rintro _ ⟨_, _, rfl, rfl, ⟨_, _, rfl, ⟨_, rfl, hR341⟩, rfl⟩⟩; exact ⟨[(I x315.1)], [(Sl a322 x315.2.1 c323), (I x315.2.2)], rfl, rfl, ⟨[(Sl a322 x315.2.1 c323)], [(I x315.2.2)], rfl, ⟨_, rfl, (H.ro 1 rfl)⟩, rfl⟩⟩)) (wanted_none _ rfl _) ?_
        rintro σ342 ⟨H, -⟩
        have hsl : (Sl adata_0 (o188.1.set o188.2.toNat (x305.1, x305.2.1, x305.2.2)) cdata_0) = (Sl adata_0 ((o188.1.set o188.2.toNat (x305.1, x305.2.1, x305.2.2)).set a_1.toNat (x315.1, x315.2.1, x315.2.2)) cdata_0) := sl_len List.length_set.symm
        rw [hsl]; rw [hsl] at H; clear hsl
        refine w_end ?_
        refine q_then ?_
        refine c_seq ?_
        refine rg ?_
        refine st (v := (I o188.2)) (rv_move rfl) ?_
        refine st (v := (I o188.2)) (rv_assign rfl) ?_
        refine st (v := (B false)) (rv_assign rfl) ?_
        refine w_end ?_
        refine q_then ?_
        refine c_ret ?_
        obtain rfl := Option.some.inj h
        exact fin_ret (v := (.tuple #[(I o188.2), (B false)])) (results_ok Try.results119 (res_tmp (v := (I o188.2)) rfl (res_tmp (v := (B false)) rfl res_nil)) rfl) ⟨rfl, rfl, (List.length_set.trans (List.length_set.trans (hn304.trans (List.length_set.trans (List.length_set.trans (List.length_set.trans List.length_set))))))⟩ (H.sel' [0, 3, 5] rfl rfl)

end Go.Vs
