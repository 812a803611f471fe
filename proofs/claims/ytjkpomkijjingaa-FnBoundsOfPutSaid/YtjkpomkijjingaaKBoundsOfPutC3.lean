/- The functions compute what their models say. -/
import Derived.Test.YtjkpomkijjingaaKBoundsOfPutC2
set_option linter.unusedVariables false
set_option linter.unusedSimpArgs false
set_option maxRecDepth 20000
namespace Go.Vs
open Go Go.Proofs
attribute [local irreducible] Code.wp wpList wpQuiet Calls

theorem c_slices_Reverse_impl_Item_impl_Item {s_0 : List (Int × (List Int) × Int)} {as_0 : Option Addr} {cs_0 : Nat} {r : (List (Int × (List Int) × Int))} (h : M.slices_Reverse_impl_Item_impl_Item s_0 = some r) :
    Cal2 Try.prog 68 [(Sl as_0 s_0 cs_0)] [Ch.own 0 0 (Sl as_0 s_0 cs_0) s_0] (fun n0 v L => v = (.tuple #[]) ∧ L = [Ch.own 0 0 (Sl as_0 r cs_0) r] ∧ r.length = s_0.length) := by
  refine cal2 (n := 28) Try.func68 rfl rfl rfl rfl ?_
  intro S0 σ0 n0 hn0 H
  unfold M.slices_Reverse_impl_Item_impl_Item at h
  refine c_seq ?_
  refine rg ?_
  refine st (v := (Sl as_0 s_0 cs_0)) (rv_move rfl) ?_
  refine st (v := (I (s_0.length : Int))) (rv_len Try.underlying23 rfl) ?_
  refine st (v := (I (w64 ((s_0.length : Int) - 1)))) (rv_sub (a := (s_0.length : Int)) (b := 1) rfl rfl) ?_
  refine st (v := (I 0)) (rv_assign rfl) ?_
  refine st (v := (I (w64 ((s_0.length : Int) - 1)))) (rv_assign rfl) ?_
  refine w_end ?_
  refine q_then ?_
  obtain ⟨o1, hj, h'⟩ := bind_some h
  clear h
  refine c_cut (fun e a w => e = .normal ∧ ∃ (ρ : Nat → Value) (σ : St), a = fr 28 (updL ρ [(0, (Sl as_0 o1 cs_0))]) ∧ w = σ.w ∧ Hp S0 σ0 σ [Ch.own 0 0 (Sl as_0 o1 cs_0) o1] ∧ o1.length = s_0.length) ?_ ?_
  · clear h'
    rename _ = some o1 => h
    refine c_blk ?_
    refine wp_loopM _ h (fun s2 a w => ∃ (ρ : Nat → Value) (σ : St), a = fr 28 (updL ρ [(0, (Sl as_0 s2.1 cs_0)), (2, (I s2.2.1)), (3, (I s2.2.2))]) ∧ w = σ.w ∧ Hp S0 σ0 σ [Ch.own 0 0 (Sl as_0 s2.1 cs_0) s2.1] ∧ s2.1.length = s_0.length) ⟨_, σ0, fr_join ⟨rfl, rfl, rfl, trivial⟩, rfl, H.sel' [0] rfl rfl, rfl⟩ ?_
    clear h H
    rintro s2 a w o ⟨ρ, σ3, rfl, rfl, H, hn4⟩ h hres
    refine c_seq ?_
    refine c_seq ?_
    refine rg ?_
    refine st (v := (I s2.2.1)) (rv_move rfl) ?_
    refine st (v := (I s2.2.2)) (rv_move rfl) ?_
    refine st (v := (B (decide (s2.2.1 < s2.2.2)))) (rv_lss (a := s2.2.1) (b := s2.2.2) rfl rfl) ?_
    refine w_end ?_
    refine q_then ?_
    refine cd_cond (decide (s2.2.1 < s2.2.2)) rfl (fun hb5 => ?_) (fun hb5 => ?_)
    · replace h := bif_t hb5 h
      refine c_skip ?_
      refine q_then ?_
      refine c_seq ?_
      refine c_blk ?_
      obtain ⟨x6, hx7, h'⟩ := bind_some h
      clear h
      have h := h'; clear h'
      obtain ⟨b9, o10, hi8, -⟩ := (H.own 0 rfl).ix hx7
      obtain ⟨_, ⟨_, _, rfl, rfl, ⟨_, _, rfl, ⟨_, rfl, hR15⟩, rfl⟩⟩, hl11, hc12⟩ := ((H.own 0 rfl).at hx7 hi8).cells
      obtain ⟨a13, c14, rfl⟩ := hR15.isSl
      replace H := H.add (d := Ch.ro 0 (Sl a13 x6.2.1 c14) x6.2.1) hR15 (fun _ h => h)
      clear hR15
      obtain ⟨x16, hx17, h'⟩ := bind_some h
      clear h
      have h := h'; clear h'
      obtain ⟨b19, o20, hi18, -⟩ := (H.own 1 rfl).ix hx17
      obtain ⟨_, ⟨_, _, rfl, rfl, ⟨_, _, rfl, ⟨_, rfl, hR25⟩, rfl⟩⟩, hl21, hc22⟩ := ((H.own 1 rfl).at hx17 hi18).cells
      obtain ⟨a23, c24, rfl⟩ := hR25.isSl
      replace H := H.add (d := Ch.ro 0 (Sl a23 x16.2.1 c24) x16.2.1) hR25 (fun _ h => h)
      clear hR25
      obtain ⟨x26, hx27, h'⟩ := bind_some h
      clear h
      have h := h'; clear h'
      obtain ⟨b29, o30, hi28, -⟩ := (H.own 2 rfl).ix hx27
      have Hs := H
      refine rg2 (σ := σ3) (Nm := Unit) 14 [13] [[false], [true]] [[(0, 0)], [(0, 0)], [(0, 0), (1, 1)], [(0, 0), (1, 1)], [(0, 0)], [(0, 0)], [(0, 0)], [(0, 0)], [(0, 0)], [(0, 0)], [(0, 0)], [(0, 0)], [(0, 0)], [(0, 1)]] 1 [fun (_nm : Unit) => fun σm => Hp S0 σ0 σm [Ch.ro 0 (Sl a23 x16.2.1 c24) x16.2.1, Ch.ro 0 (Sl a13 x6.2.1 c14) x6.2.1, Ch.own 0 0 (Sl as_0 s2.1 cs_0) s2.1] ∧ Md (cov []) σ3 σm, fun (_nm : Unit) => fun σm => Hp S0 σ0 σm [Ch.own 0 0 (Sl as_0 s2.1 cs_0) (s2.1.set s2.2.1.toNat (x6.1, x6.2.1, x6.2.2)), Ch.ro 0 (Sl a23 x16.2.1 c24) x16.2.1, Ch.ro 0 (Sl a13 x6.2.1 c14) x6.2.1] ∧ Md (fun i => (cov []) i ∨ (fun b => blk (Sl as_0 s2.1 cs_0) = some b) i) σ3 σm] [fun (_nm : Unit) => (Sl as_0 s2.1 cs_0), fun (_nm : Unit) => (I s2.2.1), fun (_nm : Unit) => (Sl as_0 s2.1 cs_0), fun (_nm : Unit) => (I s2.2.2), fun (_nm : Unit) => (Sl as_0 s2.1 cs_0), fun (_nm : Unit) => (I s2.2.2), fun (_nm : Unit) => (pt b9 o10), fun (_nm : Unit) => (.agg #[(I x6.1), (Sl a13 x6.2.1 c14), (I x6.2.2)]), fun (_nm : Unit) => (Sl as_0 s2.1 cs_0), fun (_nm : Unit) => (I s2.2.1), fun (_nm : Unit) => (pt b19 o20), fun (_nm : Unit) => (.agg #[(I x16.1), (Sl a23 x16.2.1 c24), (I x16.2.2)]), fun (_nm : Unit) => (pt b29 o30), fun (_nm : Unit) => undef] () (by kernel_rfl) (by kernel_rfl) ?_ ?_ ?_
      · intro σm m0
        exact ⟨H.grow (m0.mono fun _ h => h.elim), m0⟩
      · refine all_cons (obs_v rfl (by
            intro k; intro _nm ρ σm hJ hoff hdep
            have e0 : look 28 ρ 0 = (Sl as_0 s2.1 cs_0) := look_off (hoff 0 rfl) rfl
            exact dp_v (v := (Sl as_0 s2.1 cs_0)) (wanted_none _ rfl _) (rv_move e0) rfl hJ)) ?_
        refine all_cons (obs_v rfl (by
            intro k; intro _nm ρ σm hJ hoff hdep
            have e2 : look 28 ρ 2 = (I s2.2.1) := look_off (hoff 2 rfl) rfl
            exact dp_v (v := (I s2.2.1)) (wanted_none _ rfl _) (rv_move e2) rfl hJ)) ?_
        refine all_cons (obs_v rfl (by
            intro k; intro _nm ρ σm hJ hoff hdep
            have e0 : look 28 ρ 0 = (Sl as_0 s2.1 cs_0) := look_off (hoff 0 rfl) rfl
            exact dp_v (v := (Sl as_0 s2.1 cs_0)) (wanted_none _ rfl _) (rv_move e0) rfl hJ)) ?_
        refine all_cons (obs_v rfl (by
            intro k; intro _nm ρ σm hJ hoff hdep
            have e3 : look 28 ρ 3 = (I s2.2.2) := look_off (hoff 3 rfl) rfl
            exact dp_v (v := (I s2.2.2)) (wanted_none _ rfl _) (rv_move e3) rfl hJ)) ?_
        refine all_cons (obs_v rfl (by
            intro k; intro _nm ρ σm hJ hoff hdep
            have e0 : look 28 ρ 0 = (Sl as_0 s2.1 cs_0) := look_off (hoff 0 rfl) rfl
            exact dp_v (v := (Sl as_0 s2.1 cs_0)) (wanted_none _ rfl _) (rv_move e0) rfl hJ)) ?_
        refine all_cons (obs_v rfl (by
            intro k; intro _nm ρ σm hJ hoff hdep
            have e3 : look 28 ρ 3 = (I s2.2.2) := look_off (hoff 3 rfl) rfl
            exact dp_v (v := (I s2.2.2)) (wanted_none _ rfl _) (rv_move e3) rfl hJ)) ?_
        refine all_cons (obs_v rfl (by
            intro k; intro _nm ρ σm hJ hoff hdep
            have e18 : look 28 ρ 18 = (Sl as_0 s2.1 cs_0) := hdep 4 rfl rfl 18 rfl
            have e19 : look 28 ρ 19 = (I s2.2.2) := hdep 5 rfl rfl 19 rfl
            exact dp_v (v := (pt b9 o10)) (wanted_none _ rfl _) (rv_ix Try.underlying23 ti29 e18 e19 hi8) rfl hJ)) ?_
        refine all_cons (by
            refine ⟨?_, ?_⟩
            · intro _nm ρ σm hJ hoff hdep
              have e20 : look 28 ρ 20 = (pt b9 o10) := hdep 6 rfl rfl 20 rfl
              obtain ⟨H, m⟩ := (show Hp S0 σ0 σm [Ch.ro 0 (Sl a23 x16.2.1 c24) x16.2.1, Ch.ro 0 (Sl a13 x6.2.1 c14) x6.2.1, Ch.own 0 0 (Sl as_0 s2.1 cs_0) s2.1] ∧ Md (cov []) σ3 σm from hJ)
              replace hc12 := fun j hj => m.hcell (hc12 j hj) nocov
              exact dp_v (v := (.agg #[(I x6.1), (Sl a13 x6.2.1 c14), (I x6.2.2)])) (wanted_none _ rfl _) (rv_load Try.underlying29 rfl ti29 e20 hl11 hc12) rfl hJ
            trivial) ?_
        refine all_cons (obs_v rfl (by
            intro k; intro _nm ρ σm hJ hoff hdep
            have e0 : look 28 ρ 0 = (Sl as_0 s2.1 cs_0) := look_off (hoff 0 rfl) rfl
            exact dp_v (v := (Sl as_0 s2.1 cs_0)) (wanted_none _ rfl _) (rv_move e0) rfl hJ)) ?_
        refine all_cons (obs_v rfl (by
            intro k; intro _nm ρ σm hJ hoff hdep
            have e2 : look 28 ρ 2 = (I s2.2.1) := look_off (hoff 2 rfl) rfl
            exact dp_v (v := (I s2.2.1)) (wanted_none _ rfl _) (rv_move e2) rfl hJ)) ?_
        refine all_cons (obs_v rfl (by
            intro k; intro _nm ρ σm hJ hoff hdep
            have e22 : look 28 ρ 22 = (Sl as_0 s2.1 cs_0) := hdep 8 rfl rfl 22 rfl
            have e23 : look 28 ρ 23 = (I s2.2.1) := hdep 9 rfl rfl 23 rfl
            exact dp_v (v := (pt b19 o20)) (wanted_none _ rfl _) (rv_ix Try.underlying23 ti29 e22 e23 hi18) rfl hJ)) ?_
        refine all_cons (by
            refine ⟨?_, ?_⟩
            · intro _nm ρ σm hJ hoff hdep
              have e24 : look 28 ρ 24 = (pt b19 o20) := hdep 10 rfl rfl 24 rfl
              obtain ⟨H, m⟩ := (show Hp S0 σ0 σm [Ch.ro 0 (Sl a23 x16.2.1 c24) x16.2.1, Ch.ro 0 (Sl a13 x6.2.1 c14) x6.2.1, Ch.own 0 0 (Sl as_0 s2.1 cs_0) s2.1] ∧ Md (cov []) σ3 σm from hJ)
              replace hc22 := fun j hj => m.hcell (hc22 j hj) nocov
              exact dp_v (v := (.agg #[(I x16.1), (Sl a23 x16.2.1 c24), (I x16.2.2)])) (wanted_none _ rfl _) (rv_load Try.underlying29 rfl ti29 e24 hl21 hc22) rfl hJ
            trivial) ?_
        refine all_cons (obs_v rfl (by
            intro k; intro _nm ρ σm hJ hoff hdep
            have e14 : look 28 ρ 14 = (Sl as_0 s2.1 cs_0) := hdep 0 rfl rfl 14 rfl
            have e15 : look 28 ρ 15 = (I s2.2.1) := hdep 1 rfl rfl 15 rfl
            exact dp_v (v := (pt b29 o30)) (wanted_none _ rfl _) (rv_ix Try.underlying23 ti29 e14 e15 hi28) rfl hJ)) ?_
        refine all_cons (by
            refine ⟨?_, ?_⟩
            · intro _nm ρ σm hJ hoff hdep
              have e26 : look 28 ρ 26 = (pt b29 o30) := hdep 12 rfl rfl 26 rfl
              have e21 : look 28 ρ 21 = (.agg #[(I x6.1), (Sl a13 x6.2.1 c14), (I x6.2.2)]) := hdep 7 rfl rfl 21 rfl
              obtain ⟨H, m⟩ := (show Hp S0 σ0 σm [Ch.ro 0 (Sl a23 x16.2.1 c24) x16.2.1, Ch.ro 0 (Sl a13 x6.2.1 c14) x6.2.1, Ch.own 0 0 (Sl as_0 s2.1 cs_0) s2.1] ∧ Md (cov []) σ3 σm from hJ)
              refine dp_exS (wanted_none _ rfl _) rfl (ex_store_own (e' := (x6.1, x6.2.1, x6.2.2)) (vs := [(I x6.1), (Sl a13 x6.2.1 c14), (I x6.2.2)]) (k := 0) H (i := 2) rfl ti29 hx27 hi28 e26 rfl e21 rfl rfl (Nat.le_of_ble_eq_true rfl) (by simp [plain]) (by rintro _ ⟨_, _, rfl, rfl, ⟨_, _, rfl, ⟨_, rfl, hR33⟩, rfl⟩⟩; exact ⟨[(I x6.1)], [(Sl a13 x6.2.1 c14), (I x6.2.2)], rfl, rfl, ⟨[(Sl a13 x6.2.1 c14)], [(I x6.2.2)], rfl, ⟨_, rfl, (H.ro 1 rfl)⟩, rfl⟩⟩)) ?_
              rintro σq ⟨H2, m2⟩
              exact ⟨_, (), rfl, ⟨H2.sel' [0, 1, 2] rfl rfl, m.comp m2⟩, stab [0, 1, 2, 3, 4, 5, 6, 7, 8, 9, 10, 11, 12] (by kernel_rfl) ⟨rfl, rfl, rfl, rfl, rfl, rfl, rfl, rfl, rfl, rfl, rfl, rfl, rfl, trivial⟩⟩
            trivial) ?_
        exact all_nil
      · intro _nm ρ σ34 hJ hoff hrel
        have e0 : look 28 ρ 0 = (Sl as_0 s2.1 cs_0) := look_off (hoff 0 rfl) rfl
        have e2 : look 28 ρ 2 = (I s2.2.1) := look_off (hoff 2 rfl) rfl
        have e3 : look 28 ρ 3 = (I s2.2.2) := look_off (hoff 3 rfl) rfl
        have e16 : look 28 ρ 16 = (Sl as_0 s2.1 cs_0) := hrel 2 rfl 16 rfl
        have e17 : look 28 ρ 17 = (I s2.2.2) := hrel 3 rfl 17 rfl
        have e25 : look 28 ρ 25 = (.agg #[(I x16.1), (Sl a23 x16.2.1 c24), (I x16.2.2)]) := hrel 11 rfl 25 rfl
        obtain ⟨H, -⟩ := (show Hp S0 σ0 σ34 [Ch.own 0 0 (Sl as_0 s2.1 cs_0) (s2.1.set s2.2.1.toNat (x6.1, x6.2.1, x6.2.2)), Ch.ro 0 (Sl a23 x16.2.1 c24) x16.2.1, Ch.ro 0 (Sl a13 x6.2.1 c14) x6.2.1] ∧ Md (fun i => (cov []) i ∨ (fun b => blk (Sl as_0 s2.1 cs_0) = some b) i) σ3 σ34 from hJ)
        clear hJ Hs
        rw [fr_lookL (L := [(0, (Sl as_0 s2.1 cs_0)), (2, (I s2.2.1)), (3, (I s2.2.2)), (16, (Sl as_0 s2.1 cs_0)), (17, (I s2.2.2)), (25, (.agg #[(I x16.1), (Sl a23 x16.2.1 c24), (I x16.2.2)]))]) ⟨e0, e2, e3, e16, e17, e25, trivial⟩]
        clear hoff hrel e0 e2 e3 e16 e17 e25
        have hsl : (Sl as_0 s2.1 cs_0) = (Sl as_0 (s2.1.set s2.2.1.toNat (x6.1, x6.2.1, x6.2.2)) cs_0) := sl_len (by simp)
        rw [hsl]; rw [hsl] at H; clear hsl
        obtain ⟨x35, hx36, h'⟩ := bind_some h
        clear h
        have h := h'; clear h'
        obtain ⟨b38, o39, hi37, -⟩ := (H.own 0 rfl).ix hx36
        refine st (v := (pt b38 o39)) (rv_ix Try.underlying23 ti29 rfl rfl hi37) ?_
        refine st_exS (ex_store_own (e' := (x16.1, x16.2.1, x16.2.2)) (vs := [(I x16.1), (Sl a23 x16.2.1 c24), (I x16.2.2)]) (k := 0) H (i := 0) rfl ti29 hx36 hi37 rfl rfl rfl rfl rfl (Nat.le_of_ble_eq_true rfl) (by simp [plain]) (by rintro _ ⟨_, _, rfl, rfl, ⟨_, _, rfl, ⟨_, rfl, hR42⟩, rfl⟩⟩; exact ⟨[(I x16.1)], [(Sl a23 x16.2.1 c24), (I x16.2.2)], rfl, rfl, ⟨[(Sl a23 x16.2.1 c24)], [(I x16.2.2)], rfl, ⟨_, rfl, (H.ro 1 rfl)⟩, rfl⟩⟩)) (wanted_none _ rfl _) ?_
        rintro σ43 ⟨H, -⟩
        have hsl : (Sl as_0 (s2.1.set s2.2.1.toNat (x6.1, x6.2.1, x6.2.2)) cs_0) = (Sl as_0 ((s2.1.set s2.2.1.toNat (x6.1, x6.2.1, x6.2.2)).set s2.2.2.toNat (x16.1, x16.2.1, x16.2.2)) cs_0) := sl_len List.length_set.symm
        rw [hsl]; rw [hsl] at H; clear hsl
        refine w_end ?_
        refine q_blk ?_
        refine q_then ?_
        refine rg ?_
        refine st (v := (I s2.2.1)) (rv_move rfl) ?_
        refine st (v := (I (w64 (s2.2.1 + 1)))) (rv_add (a := s2.2.1) (b := 1) rfl rfl) ?_
        refine st (v := (I s2.2.2)) (rv_move rfl) ?_
        refine st (v := (I (w64 (s2.2.2 - 1)))) (rv_sub (a := s2.2.2) (b := 1) rfl rfl) ?_
        refine st (v := (I (w64 (s2.2.1 + 1)))) (rv_assign rfl) ?_
        refine st (v := (I (w64 (s2.2.2 - 1)))) (rv_assign rfl) ?_
        refine w_end ?_
        refine q_then ?_
        obtain rfl := Option.some.inj h
        exact ⟨_, rfl, _, σ43, fr_join ⟨rfl, rfl, rfl, trivial⟩, rfl, H.sel' [0] rfl rfl, (List.length_set.trans (List.length_set.trans hn4))⟩
    · replace h := bif_f hb5 h
      refine c_exit ?_
      refine q_then_x ?_
      refine q_then_x ?_
      refine q_blk_hit ?_
      obtain rfl := Option.some.inj h
      obtain rfl := hres _ rfl
      exact ⟨rfl, _, σ3, fr_join ⟨rfl, trivial⟩, rfl, H.sel' [0] rfl rfl, hn4⟩
  · clear hj
    have h := h'
    clear h' H
    rintro e a w ⟨rfl, ρ, σ44, rfl, rfl, H, hn45⟩
    obtain rfl := Option.some.inj h
    exact fin_end (v := (.tuple #[])) (results_ok Try.results68 res_nil rfl) ⟨rfl, rfl, hn45⟩ (H.sel' [0] rfl rfl)

theorem c_slices_Insert_impl_Item_impl_Item {s_0 : List (Int × (List Int) × Int)} {i_1 : Int} {v_2 : List (Int × (List Int) × Int)} {as_0 : Option Addr} {cs_0 : Nat} (hts_0 : cs_0 = s_0.length) {av_2 : Option Addr} {cv_2 : Nat} {r : (List (Int × (List Int) × Int))} (h : M.slices_Insert_impl_Item_impl_Item s_0 i_1 v_2 = some r) :
    Cal2 Try.prog 39 [(Sl as_0 s_0 cs_0), (I i_1), (Sl av_2 v_2 cv_2)] [Ch.own 0 0 (Sl as_0 s_0 cs_0) s_0, Ch.ro 0 (Sl av_2 v_2 cv_2) v_2] (fun n0 v L => ∃ (az1 : Option Addr), ∃ (cz2 : Nat), v = (Sl az1 r cz2) ∧ L = [Ch.own 0 0 (Sl az1 r cz2) r]) := by
  refine cal2 (n := 95) Try.func39 rfl rfl rfl rfl ?_
  intro S0 σ0 n0 hn0 H
  unfold M.slices_Insert_impl_Item_impl_Item at h
  refine c_seq ?_
  refine rg ?_
  refine st (v := (.slice none 0 0)) (rv_assign rfl) ?_
  refine w_end ?_
  refine q_then ?_
  refine c_seq ?_
  refine rg ?_
  refine st (v := (Sl as_0 s_0 cs_0)) (rv_move rfl) ?_
  refine st (v := (I i_1)) (rv_move rfl) ?_
  obtain ⟨xs1, hx2, h'⟩ := bind_some h
  clear h
  have h := h'; clear h'
  obtain ⟨a3, c4, hs5, -⟩ := (H.own 0 rfl).slice hx2
  refine st (v := (Sl a3 xs1 c4)) (rv_slice_l Try.underlying23 ti29 hs5 rfl rfl) ?_
  refine w_end ?_
  refine q_then ?_
  refine c_seq ?_
  refine rg ?_
  refine st (v := (Sl av_2 v_2 cv_2)) (rv_move rfl) ?_
  refine st (v := (I (v_2.length : Int))) (rv_len Try.underlying23 rfl) ?_
  refine st (v := (I (v_2.length : Int))) (rv_assign rfl) ?_
  refine w_end ?_
  refine q_then ?_
  refine c_seq ?_
  refine c_seq ?_
  refine rg ?_
  refine st (v := (I (v_2.length : Int))) (rv_move rfl) ?_
  refine st (v := (B ((v_2.length : Int) == 0))) (rv_eql (a := (v_2.length : Int)) (b := 0) rfl rfl) ?_
  refine w_end ?_
  refine q_then ?_
  refine cd_cond ((v_2.length : Int) == 0) rfl (fun hb7 => ?_) (fun hb7 => ?_)
  · replace h := bif_t hb7 h
    refine c_seq ?_
    refine rg ?_
    refine st (v := (Sl as_0 s_0 cs_0)) (rv_move rfl) ?_
    refine st (v := (Sl as_0 s_0 cs_0)) (rv_assign rfl) ?_
    refine w_end ?_
    refine q_then ?_
    refine c_ret ?_
    refine q_then_r ?_
    obtain rfl := Option.some.inj h
    exact fin_ret (v := (Sl as_0 s_0 cs_0)) (results_ok Try.results39 (res_tmp (v := (Sl as_0 s_0 cs_0)) rfl res_nil) rfl) ⟨as_0, cs_0, rfl, rfl⟩ (H.sel' [0] rfl rfl)
  · replace h := bif_f hb7 h
    refine c_skip ?_
    refine q_then ?_
    refine c_seq ?_
    refine rg ?_
    refine st (v := (Sl as_0 s_0 cs_0)) (rv_move rfl) ?_
    refine st (v := (I (s_0.length : Int))) (rv_len Try.underlying23 rfl) ?_
    refine st (v := (I (s_0.length : Int))) (rv_assign rfl) ?_
    refine w_end ?_
    refine q_then ?_
    refine c_seq ?_
    refine c_seq ?_
    refine rg ?_
    refine st (v := (I i_1)) (rv_move rfl) ?_
    refine st (v := (I (s_0.length : Int))) (rv_move rfl) ?_
    refine st (v := (B (i_1 == (s_0.length : Int)))) (rv_eql (a := i_1) (b := (s_0.length : Int)) rfl rfl) ?_
    refine w_end ?_
    refine q_then ?_
    refine cd_cond (i_1 == (s_0.length : Int)) rfl (fun hb8 => ?_) (fun hb8 => ?_)
    · replace h := bif_t hb8 h
      refine c_seq ?_
      refine rg ?_
      refine st (v := (Sl as_0 s_0 cs_0)) (rv_move rfl) ?_
      refine st (v := (Sl av_2 v_2 cv_2)) (rv_move rfl) ?_
      obtain ⟨xs9, hx10, h'⟩ := bind_some h
      clear h
      have h := h'; clear h'
      refine st_ex (ex_append H (i := 0) rfl Try.underlying23 Try.underlying23 ti29 rfl rfl (by decide) (H.ro 1 rfl).rd hx10 (Nat.zero_le _) rfl rfl) (wanted_none _ rfl _) ?_
      rintro _ σ13 ⟨a11, c12, rfl, H, -⟩
      refine st (v := (Sl a11 xs9 c12)) (rv_assign rfl) ?_
      refine w_end ?_
      refine q_then ?_
      refine c_ret ?_
      refine q_then_r ?_
      obtain rfl := Option.some.inj h
      exact fin_ret (v := (Sl a11 xs9 c12)) (results_ok Try.results39 (res_tmp (v := (Sl a11 xs9 c12)) rfl res_nil) rfl) ⟨a11, c12, rfl, rfl⟩ (H.sel' [0] rfl rfl)
    · replace h := bif_f hb8 h
      refine c_skip ?_
      refine q_then ?_
      refine c_seq ?_
      refine c_seq ?_
      refine rg ?_
      refine st (v := (I (s_0.length : Int))) (rv_move rfl) ?_
      refine st (v := (I (v_2.length : Int))) (rv_move rfl) ?_
      refine st (v := (I (w64 ((s_0.length : Int) + (v_2.length : Int))))) (rv_add (a := (s_0.length : Int)) (b := (v_2.length : Int)) rfl rfl) ?_
      refine st (v := (Sl as_0 s_0 cs_0)) (rv_move rfl) ?_
      refine st (v := (I (s_0.length : Int))) (rv_cap Try.underlying23 rfl hts_0) ?_
      refine st (v := (B (decide ((s_0.length : Int) < (w64 ((s_0.length : Int) + (v_2.length : Int))))))) (rv_gtr (a := (w64 ((s_0.length : Int) + (v_2.length : Int)))) (b := (s_0.length : Int)) rfl rfl) ?_
      refine w_end ?_
      refine q_then ?_
      refine cd_cond (decide ((s_0.length : Int) < (w64 ((s_0.length : Int) + (v_2.length : Int))))) rfl (fun hb14 => ?_) (fun hb14 => ?_)
      · replace h := bif_t hb14 h
        refine c_seq ?_
        refine rg ?_
        refine st (v := (Sl as_0 s_0 cs_0)) (rv_move rfl) ?_
        refine st (v := (I i_1)) (rv_move rfl) ?_
        obtain ⟨xs15, hx16, h'⟩ := bind_some h
        clear h
        have h := h'; clear h'
        obtain ⟨a17, c18, hs19, -⟩ := (H.own 0 rfl).slice hx16
        refine st (v := (Sl a17 xs15 c18)) (rv_slice_h Try.underlying23 ti29 hs19 rfl rfl) ?_
        refine st (v := (I (s_0.length : Int))) (rv_move rfl) ?_
        refine st (v := (I (v_2.length : Int))) (rv_move rfl) ?_
        refine st (v := (I (w64 ((s_0.length : Int) + (v_2.length : Int))))) (rv_add (a := (s_0.length : Int)) (b := (v_2.length : Int)) rfl rfl) ?_
        refine st (v := (I i_1)) (rv_move rfl) ?_
        refine st (v := (I (w64 ((w64 ((s_0.length : Int) + (v_2.length : Int))) - i_1)))) (rv_sub (a := (w64 ((s_0.length : Int) + (v_2.length : Int)))) (b := i_1) rfl rfl) ?_
        obtain ⟨xs21, hx22, h'⟩ := bind_some h
        clear h
        have h := h'; clear h'
        refine st_ex (ex_appZ (z0 := ((0, [], 0) : Int × (List Int) × Int)) (zs := [(I 0), (.slice none 0 0), (I 0)]) H (i := 0) rfl Try.underlying23 Try.underlying3 ti29 rfl rfl (⟨[(I 0)], [(.slice none 0 0), (I 0)], rfl, rfl, ⟨[(.slice none 0 0)], [(I 0)], rfl, ⟨_, rfl, RS.nil⟩, rfl⟩⟩) (by decide) hts_0 hx16 hs19 hx22 (app_new (by have := gslice_some hx16; omega) (gslice_some hx16).2.2.1 hb14) hn0 rfl rfl) (wanted_none _ rfl _) ?_
        rintro _ σ25 ⟨b23, c24, rfl, H, -⟩
        refine st (v := (Sl (some ⟨b23, 0, none⟩) xs21 c24)) (rv_assign rfl) ?_
        refine w_end ?_
        refine q_then ?_
        refine c_seq ?_
        refine rg ?_
        refine st (v := (Sl (some ⟨b23, 0, none⟩) xs21 c24)) (rv_move rfl) ?_
        refine st (v := (I i_1)) (rv_move rfl) ?_
        obtain ⟨xs26, hx27, h'⟩ := bind_some h
        clear h
        have h := h'; clear h'
        obtain ⟨a28, c29, hs30, -⟩ := (H.own 0 rfl).slice hx27
        refine st (v := (Sl a28 xs26 c29)) (rv_slice_l Try.underlying23 ti29 hs30 rfl rfl) ?_
        refine st (v := (Sl av_2 v_2 cv_2)) (rv_move rfl) ?_
        refine st_ex (ex_copyV H (i := 0) rfl Try.underlying23 ti29 rfl hx27 hs30 (H.ro 2 rfl).rd rfl rfl) (wanted_none _ rfl _) ?_
        rintro _ σ32 ⟨rfl, H, -⟩
        have hsl : (Sl (some ⟨b23, 0, none⟩) xs21 c24) = (Sl (some ⟨b23, 0, none⟩) (gcopyAt xs21 (i_1).toNat xs26.length v_2) c24) := sl_len (gcopyAt_len (by have := gslice_some hx27; omega)).symm
        rw [hsl]; rw [hsl] at H; clear hsl
        refine w_end ?_
        refine q_then ?_
        refine c_seq ?_
        obtain ⟨xs33, hx34, h'⟩ := bind_some h
        clear h
        have h := h'; clear h'
        obtain ⟨a35, c36, hs37, -⟩ := (H.own 0 rfl).slice hx34
        obtain ⟨xs39, hx40, h'⟩ := bind_some h
        clear h
        have h := h'; clear h'
        obtain ⟨a41, c42, hs43, -⟩ := (H.own 1 rfl).slice hx40
        have Hs := H
        refine rg2 (σ := σ32) (Nm := Unit) 8 [] [[]] [[(0, 0)], [(0, 0)], [(0, 0)], [(0, 0)], [(0, 0)], [(0, 0)], [(0, 0)], [(0, 0)]] 0 [fun (_nm : Unit) => fun σm => Hp S0 σ0 σm [Ch.own n0 0 (Sl (some ⟨b23, 0, none⟩) (gcopyAt xs21 (i_1).toNat xs26.length v_2) c24) (gcopyAt xs21 (i_1).toNat xs26.length v_2), Ch.own 0 0 (Sl as_0 s_0 cs_0) s_0, Ch.ro 0 (Sl av_2 v_2 cv_2) v_2] ∧ Md (cov []) σ32 σm] [fun (_nm : Unit) => (Sl (some ⟨b23, 0, none⟩) (gcopyAt xs21 (i_1).toNat xs26.length v_2) c24), fun (_nm : Unit) => (I i_1), fun (_nm : Unit) => (I (v_2.length : Int)), fun (_nm : Unit) => (I (w64 (i_1 + (v_2.length : Int)))), fun (_nm : Unit) => (Sl a35 xs33 c36), fun (_nm : Unit) => (Sl as_0 s_0 cs_0), fun (_nm : Unit) => (I i_1), fun (_nm : Unit) => (Sl a41 xs39 c42)] () (by kernel_rfl) (by kernel_rfl) ?_ ?_ ?_
        · intro σm m0
          exact ⟨H.grow (m0.mono fun _ h => h.elim), m0⟩
        · refine all_cons (obs_v rfl (by
              intro k; intro _nm ρ σm hJ hoff hdep
              have e9 : look 95 ρ 9 = (Sl (some ⟨b23, 0, none⟩) (gcopyAt xs21 (i_1).toNat xs26.length v_2) c24) := look_off (hoff 9 rfl) rfl
              exact dp_v (v := (Sl (some ⟨b23, 0, none⟩) (gcopyAt xs21 (i_1).toNat xs26.length v_2) c24)) (wanted_none _ rfl _) (rv_move e9) rfl hJ)) ?_
          refine all_cons (obs_v rfl (by
              intro k; intro _nm ρ σm hJ hoff hdep
              have e1 : look 95 ρ 1 = (I i_1) := look_off (hoff 1 rfl) rfl
              exact dp_v (v := (I i_1)) (wanted_none _ rfl _) (rv_move e1) rfl hJ)) ?_
          refine all_cons (obs_v rfl (by
              intro k; intro _nm ρ σm hJ hoff hdep
              have e7 : look 95 ρ 7 = (I (v_2.length : Int)) := look_off (hoff 7 rfl) rfl
              exact dp_v (v := (I (v_2.length : Int))) (wanted_none _ rfl _) (rv_move e7) rfl hJ)) ?_
          refine all_cons (obs_v rfl (by
              intro k; intro _nm ρ σm hJ hoff hdep
              have e47 : look 95 ρ 47 = (I i_1) := hdep 1 rfl rfl 47 rfl
              have e48 : look 95 ρ 48 = (I (v_2.length : Int)) := hdep 2 rfl rfl 48 rfl
              exact dp_v (v := (I (w64 (i_1 + (v_2.length : Int))))) (wanted_none _ rfl _) (rv_add (a := i_1) (b := (v_2.length : Int)) e47 e48) rfl hJ)) ?_
          refine all_cons (obs_v rfl (by
              intro k; intro _nm ρ σm hJ hoff hdep
              have e46 : look 95 ρ 46 = (Sl (some ⟨b23, 0, none⟩) (gcopyAt xs21 (i_1).toNat xs26.length v_2) c24) := hdep 0 rfl rfl 46 rfl
              have e49 : look 95 ρ 49 = (I (w64 (i_1 + (v_2.length : Int)))) := hdep 3 rfl rfl 49 rfl
              exact dp_v (v := (Sl a35 xs33 c36)) (wanted_none _ rfl _) (rv_slice_l Try.underlying23 ti29 hs37 e46 e49) rfl hJ)) ?_
          refine all_cons (obs_v rfl (by
              intro k; intro _nm ρ σm hJ hoff hdep
              have e0 : look 95 ρ 0 = (Sl as_0 s_0 cs_0) := look_off (hoff 0 rfl) rfl
              exact dp_v (v := (Sl as_0 s_0 cs_0)) (wanted_none _ rfl _) (rv_move e0) rfl hJ)) ?_
          refine all_cons (obs_v rfl (by
              intro k; intro _nm ρ σm hJ hoff hdep
              have e1 : look 95 ρ 1 = (I i_1) := look_off (hoff 1 rfl) rfl
              exact dp_v (v := (I i_1)) (wanted_none _ rfl _) (rv_move e1) rfl hJ)) ?_
          refine all_cons (obs_v rfl (by
              intro k; intro _nm ρ σm hJ hoff hdep
              have e51 : look 95 ρ 51 = (Sl as_0 s_0 cs_0) := hdep 5 rfl rfl 51 rfl
              have e52 : look 95 ρ 52 = (I i_1) := hdep 6 rfl rfl 52 rfl
              exact dp_v (v := (Sl a41 xs39 c42)) (wanted_none _ rfl _) (rv_slice_l Try.underlying23 ti29 hs43 e51 e52) rfl hJ)) ?_
          exact all_nil
        · intro _nm ρ σ45 hJ hoff hrel
          have e0 : look 95 ρ 0 = (Sl as_0 s_0 cs_0) := look_off (hoff 0 rfl) rfl
          have e9 : look 95 ρ 9 = (Sl (some ⟨b23, 0, none⟩) (gcopyAt xs21 (i_1).toNat xs26.length v_2) c24) := look_off (hoff 9 rfl) rfl
          have e50 : look 95 ρ 50 = (Sl a35 xs33 c36) := hrel 4 rfl 50 rfl
          have e53 : look 95 ρ 53 = (Sl a41 xs39 c42) := hrel 7 rfl 53 rfl
          obtain ⟨H, -⟩ := (show Hp S0 σ0 σ45 [Ch.own n0 0 (Sl (some ⟨b23, 0, none⟩) (gcopyAt xs21 (i_1).toNat xs26.length v_2) c24) (gcopyAt xs21 (i_1).toNat xs26.length v_2), Ch.own 0 0 (Sl as_0 s_0 cs_0) s_0, Ch.ro 0 (Sl av_2 v_2 cv_2) v_2] ∧ Md (cov []) σ32 σ45 from hJ)
          clear hJ Hs
          rw [fr_lookL (L := [(0, (Sl as_0 s_0 cs_0)), (9, (Sl (some ⟨b23, 0, none⟩) (gcopyAt xs21 (i_1).toNat xs26.length v_2) c24)), (50, (Sl a35 xs33 c36)), (53, (Sl a41 xs39 c42))]) ⟨e0, e9, e50, e53, trivial⟩]
          clear hoff hrel e0 e9 e50 e53
          refine st_ex (ex_copyV H (i := 0) rfl Try.underlying23 ti29 rfl hx34 hs37 ((H.own 1 rfl).view hx40 hs43).1.rd rfl rfl) (wanted_none _ rfl _) ?_
          rintro _ σ46 ⟨rfl, H, -⟩
          have hsl : (Sl (some ⟨b23, 0, none⟩) (gcopyAt xs21 (i_1).toNat xs26.length v_2) c24) = (Sl (some ⟨b23, 0, none⟩) (gcopyAt (gcopyAt xs21 (i_1).toNat xs26.length v_2) (w64 (i_1 + (v_2.length : Int))).toNat xs33.length xs39) c24) := sl_len (gcopyAt_len (by have := gslice_some hx34; omega)).symm
          rw [hsl]; rw [hsl] at H; clear hsl
          refine w_end ?_
          refine q_then ?_
          refine c_seq ?_
          refine rg ?_
          refine st (v := (Sl (some ⟨b23, 0, none⟩) (gcopyAt (gcopyAt xs21 (i_1).toNat xs26.length v_2) (w64 (i_1 + (v_2.length : Int))).toNat xs33.length xs39) c24)) (rv_move rfl) ?_
          refine st (v := (Sl (some ⟨b23, 0, none⟩) (gcopyAt (gcopyAt xs21 (i_1).toNat xs26.length v_2) (w64 (i_1 + (v_2.length : Int))).toNat xs33.length xs39) c24)) (rv_assign rfl) ?_
          refine w_end ?_
          refine q_then ?_
          refine c_ret ?_
          refine q_then_r ?_
          replace H := H.ownLow 0 0 0 rfl (Nat.zero_le _) (Nat.le_refl _)
          obtain rfl := Option.some.inj h
          exact fin_ret (v := (Sl (some ⟨b23, 0, none⟩) (gcopyAt (gcopyAt xs21 (i_1).toNat xs26.length v_2) (w64 (i_1 + (v_2.length : Int))).toNat xs33.length xs39) c24)) (results_ok Try.results39 (res_tmp (v := (Sl (some ⟨b23, 0, none⟩) (gcopyAt (gcopyAt xs21 (i_1).toNat xs26.length v_2) (w64 (i_1 + (v_2.length : Int))).toNat xs33.length xs39) c24)) rfl res_nil) rfl) ⟨(some ⟨b23, 0, none⟩), c24, rfl, rfl⟩ (H.sel' [0] rfl rfl)
      · replace h := bif_f hb14 h
        cases h

theorem c_impl_PutItem {list_0 : List (Int × (List Int) × Int)} {x_1 : Int × (List Int) × Int} {alist_0 : Option Addr} {clist_0 : Nat} {ax_1_1 : Option Addr} {cx_1_1 : Nat} {r : (List (Int × (List Int) × Int)) × Bool} (h : M.impl_PutItem list_0 x_1 = some r) :
    Cal2 Try.prog 17 [(Sl alist_0 list_0 clist_0), (.agg #[(I x_1.1), (Sl ax_1_1 x_1.2.1 cx_1_1), (I x_1.2.2)])] [Ch.ro 0 (Sl alist_0 list_0 clist_0) list_0, Ch.ro 0 (Sl ax_1_1 x_1.2.1 cx_1_1) x_1.2.1] (fun n0 v L => ∃ (az1 : Option Addr), ∃ (cz2 : Nat), v = (.tuple #[(Sl az1 r.1 cz2), (B r.2)]) ∧ L = [Ch.own 0 0 (Sl az1 r.1 cz2) r.1]) := by
  refine cal2 (n := 43) Try.func17 rfl rfl rfl rfl ?_
  intro S0 σ0 n0 hn0 H
  unfold M.impl_PutItem at h
  refine c_seq ?_
  refine rg ?_
  refine st_ex (ex_box (cs := [(I x_1.1), (Sl ax_1_1 x_1.2.1 cx_1_1), (I x_1.2.2)]) H hn0 rfl rfl) (wanted_none _ rfl _) ?_
  rintro _ σ2 ⟨b1, rfl, H, -⟩
  refine st (v := (.slice none 0 0)) (rv_assign rfl) ?_
  refine st (v := (B false)) (rv_assign rfl) ?_
  refine w_end ?_
  refine q_then ?_
  refine c_seq ?_
  refine c_seq ?_
  obtain ⟨o3, hj, h'⟩ := bind_some h
  clear h
  refine c_cut (fun e a w => e = .normal ∧ ∃ (ρ : Nat → Value) (σ : St), a = fr 43 (updL ρ [(0, (Sl alist_0 list_0 clist_0)), (3, (pt b1 0)), (16, (B o3))]) ∧ w = σ.w ∧ Hp S0 σ0 σ [Ch.ro 0 (Sl alist_0 list_0 clist_0) list_0, Ch.ro 0 (Sl ax_1_1 x_1.2.1 cx_1_1) x_1.2.1, Ch.bx n0 b1 0 [(I x_1.1), (Sl ax_1_1 x_1.2.1 cx_1_1), (I x_1.2.2)] [] []]) ?_ ?_
  · clear h'
    rename _ = some o3 => h
    refine rg ?_
    refine st (v := (Sl alist_0 list_0 clist_0)) (rv_move rfl) ?_
    obtain ⟨r4, hx5, h'⟩ := bind_some h
    clear h
    have h := h'; clear h'
    have hc6 := c_impl_ValidStore (alist_0 := alist_0) (clist_0 := clist_0) hx5
    refine st_call (cx_call hc6 (ent_f hc6.fn rfl) hn0 (show Hp S0 σ0 _ ([Ch.ro 0 (Sl alist_0 list_0 clist_0) list_0] ++ [Ch.bx n0 b1 0 [(I x_1.1), (Sl ax_1_1 x_1.2.1 cx_1_1), (I x_1.2.2)] [] [], Ch.ro 0 (Sl alist_0 list_0 clist_0) list_0, Ch.ro 0 (Sl ax_1_1 x_1.2.1 cx_1_1) x_1.2.1]) from (H.sel' [1, 0, 1, 2] rfl rfl))) (wanted_none _ rfl _) ?_
    rintro _ σ7 ⟨_, ⟨rfl, rfl⟩, H, -⟩
    replace H : Hp S0 σ0 σ7 [Ch.bx n0 b1 0 [(I x_1.1), (Sl ax_1_1 x_1.2.1 cx_1_1), (I x_1.2.2)] [] [], Ch.ro 0 (Sl alist_0 list_0 clist_0) list_0, Ch.ro 0 (Sl ax_1_1 x_1.2.1 cx_1_1) x_1.2.1] := H
    refine st (v := (B (!r4))) (rv_not rfl) ?_
    refine st (v := (B (!r4))) (rv_move rfl) ?_
    rcases Bool.eq_false_or_eq_true (!r4) with hb8 | hb8
    · replace h := bif_t hb8 h
      refine st_skip (congrArg some hb8) ?_
      refine st_skip (congrArg some hb8) ?_
      refine st_skip (congrArg some hb8) ?_
      refine st (v := (B true)) (rv_pick_t (congrArg B hb8) rfl) ?_
      refine w_end ?_
      obtain rfl := Option.some.inj h
      exact ⟨rfl, _, σ7, fr_join ⟨rfl, rfl, rfl, trivial⟩, rfl, H.sel' [1, 2, 0] rfl rfl⟩
    · replace h := bif_f hb8 h
      have hc9 := H.cells 0 rfl
      refine st_g (v := (.agg #[(I x_1.1), (Sl ax_1_1 x_1.2.1 cx_1_1), (I x_1.2.2)])) (congrArg some hb8) (rv_load (cs := [(I x_1.1), (Sl ax_1_1 x_1.2.1 cx_1_1), (I x_1.2.2)]) Try.underlying29 rfl ti29 rfl rfl hc9) ?_
      obtain ⟨r10, hx11, h'⟩ := bind_some h
      clear h
      have h := h'; clear h'
      have hc12 := c_impl_validItem (ax_0_1 := ax_1_1) (cx_0_1 := cx_1_1) hx11
      refine st_call (cx_call hc12 (ent_f hc12.fn rfl) hn0 (show Hp S0 σ0 _ ([Ch.ro 0 (Sl ax_1_1 x_1.2.1 cx_1_1) x_1.2.1] ++ [Ch.bx n0 b1 0 [(I x_1.1), (Sl ax_1_1 x_1.2.1 cx_1_1), (I x_1.2.2)] [] [], Ch.ro 0 (Sl alist_0 list_0 clist_0) list_0, Ch.ro 0 (Sl ax_1_1 x_1.2.1 cx_1_1) x_1.2.1]) from (H.sel' [2, 0, 1, 2] rfl rfl))) (wanted_yes rfl (by exact (congrArg some hb8))) ?_
      rintro _ σ13 ⟨_, ⟨rfl, rfl⟩, H, -⟩
      replace H : Hp S0 σ0 σ13 [Ch.bx n0 b1 0 [(I x_1.1), (Sl ax_1_1 x_1.2.1 cx_1_1), (I x_1.2.2)] [] [], Ch.ro 0 (Sl alist_0 list_0 clist_0) list_0, Ch.ro 0 (Sl ax_1_1 x_1.2.1 cx_1_1) x_1.2.1] := H
      refine st_g (v := (B (!r10))) (congrArg some hb8) (rv_not rfl) ?_
      refine st (v := (B (!r10))) (rv_pick_f (congrArg B hb8) rfl) ?_
      refine w_end ?_
      obtain rfl := Option.some.inj h
      exact ⟨rfl, _, σ13, fr_join ⟨rfl, rfl, rfl, trivial⟩, rfl, H.sel' [1, 2, 0] rfl rfl⟩
  · clear hj
    have h := h'
    clear h' H
    rintro e a w ⟨rfl, ρ, σ14, rfl, rfl, H⟩
    refine q_then ?_
    refine cd_cond o3 rfl (fun hb15 => ?_) (fun hb15 => ?_)
    · replace h := bif_t hb15 h
      refine c_seq ?_
      refine rg ?_
      refine st (v := (.slice none 0 0)) (rv_assign rfl) ?_
      refine st (v := (B false)) (rv_assign rfl) ?_
      refine w_end ?_
      refine q_then ?_
      refine c_ret ?_
      refine q_then_r ?_
      replace H := H.nilOwn (Int × (List Int) × Int) 0 0
      obtain rfl := Option.some.inj h
      exact fin_ret (v := (.tuple #[(.slice none 0 0), (B false)])) (results_ok Try.results17 (res_tmp (v := (.slice none 0 0)) rfl (res_tmp (v := (B false)) rfl res_nil)) rfl) ⟨none, 0, rfl, rfl⟩ (H.sel' [0] rfl rfl)
    · replace h := bif_f hb15 h
      refine c_skip ?_
      refine q_then ?_
      refine c_seq ?_
      refine rg ?_
      refine st (v := (Sl alist_0 list_0 clist_0)) (rv_move rfl) ?_
      refine st (v := (pt b1 0)) (rv_fieldAddr (off := 0) (ft := 3) Try.underlying29 rfl ti3 rfl rfl) ?_
      have hc16 := H.cell (u := (I x_1.1)) (o' := 0) 2 0 rfl rfl rfl
      refine st (v := (I x_1.1)) (rv_load1 Try.underlying3 rfl rfl hc16) ?_
      obtain ⟨r17, hx18, h'⟩ := bind_some h
      clear h
      have h := h'; clear h'
      have hc19 := c_impl_placeOf (alist_0 := alist_0) (clist_0 := clist_0) hx18
      refine st_call (cx_call hc19 (ent_f hc19.fn rfl) hn0 (show Hp S0 σ0 _ ([Ch.ro 0 (Sl alist_0 list_0 clist_0) list_0] ++ [Ch.ro 0 (Sl alist_0 list_0 clist_0) list_0, Ch.ro 0 (Sl ax_1_1 x_1.2.1 cx_1_1) x_1.2.1, Ch.bx n0 b1 0 [(I x_1.1), (Sl ax_1_1 x_1.2.1 cx_1_1), (I x_1.2.2)] [] []]) from (H.sel' [0, 0, 1, 2] rfl rfl))) (wanted_none _ rfl _) ?_
      rintro _ σ20 ⟨_, ⟨rfl, rfl⟩, H, -⟩
      replace H : Hp S0 σ0 σ20 [Ch.ro 0 (Sl alist_0 list_0 clist_0) list_0, Ch.ro 0 (Sl ax_1_1 x_1.2.1 cx_1_1) x_1.2.1, Ch.bx n0 b1 0 [(I x_1.1), (Sl ax_1_1 x_1.2.1 cx_1_1), (I x_1.2.2)] [] []] := H
      refine st (v := (.tuple #[(I r17.1), (B r17.2)])) (rv_move rfl) ?_
      refine st (v := (I r17.1)) (rv_extract rfl rfl) ?_
      refine st (v := (B r17.2)) (rv_extract rfl rfl) ?_
      refine st (v := (I r17.1)) (rv_assign rfl) ?_
      refine st (v := (B r17.2)) (rv_assign rfl) ?_
      refine w_end ?_
      refine q_then ?_
      refine c_seq ?_
      refine c_seq ?_
      refine rg ?_
      refine st (v := (B r17.2)) (rv_move rfl) ?_
      refine w_end ?_
      refine q_then ?_
      refine cd_cond r17.2 rfl (fun hb21 => ?_) (fun hb21 => ?_)
      · replace h := bif_t hb21 h
        refine c_seq ?_
        refine rg ?_
        refine st (v := (Sl alist_0 list_0 clist_0)) (rv_move rfl) ?_
        obtain ⟨r22, hx23, h'⟩ := bind_some h
        clear h
        have h := h'; clear h'
        have hc24 := c_impl_copyItems (alist_0 := alist_0) (clist_0 := clist_0) hx23
        refine st_call (cx_call hc24 (ent_f hc24.fn rfl) hn0 (show Hp S0 σ0 _ ([Ch.ro 0 (Sl alist_0 list_0 clist_0) list_0] ++ [Ch.ro 0 (Sl alist_0 list_0 clist_0) list_0, Ch.ro 0 (Sl ax_1_1 x_1.2.1 cx_1_1) x_1.2.1, Ch.bx n0 b1 0 [(I x_1.1), (Sl ax_1_1 x_1.2.1 cx_1_1), (I x_1.2.2)] [] []]) from (H.sel' [0, 0, 1, 2] rfl rfl))) (wanted_none _ rfl _) ?_
        rintro _ σ28 ⟨_, ⟨a25, c26, rfl, rfl, ht27⟩, H, -⟩
        replace H : Hp S0 σ0 σ28 [Ch.own n0 n0 (Sl a25 r22 c26) r22, Ch.ro 0 (Sl alist_0 list_0 clist_0) list_0, Ch.ro 0 (Sl ax_1_1 x_1.2.1 cx_1_1) x_1.2.1, Ch.bx n0 b1 0 [(I x_1.1), (Sl ax_1_1 x_1.2.1 cx_1_1), (I x_1.2.2)] [] []] := H
        refine st (v := (Sl a25 r22 c26)) (rv_assign rfl) ?_
        refine w_end ?_
        refine q_then ?_
        refine c_seq ?_
        refine rg ?_
        refine st (v := (Sl a25 r22 c26)) (rv_move rfl) ?_
        refine st (v := (I r17.1)) (rv_move rfl) ?_
        have hc29 := H.cells 3 rfl
        refine st (v := (.agg #[(I x_1.1), (Sl ax_1_1 x_1.2.1 cx_1_1), (I x_1.2.2)])) (rv_load (cs := [(I x_1.1), (Sl ax_1_1 x_1.2.1 cx_1_1), (I x_1.2.2)]) Try.underlying29 rfl ti29 rfl rfl hc29) ?_
        obtain ⟨r30, hx31, h'⟩ := bind_some h
        clear h
        have h := h'; clear h'
        have hc32 := c_impl_copyItem (ax_0_1 := ax_1_1) (cx_0_1 := cx_1_1) hx31
        refine st_call (cx_call hc32 (ent_f hc32.fn rfl) hn0 (show Hp S0 σ0 _ ([Ch.ro 0 (Sl ax_1_1 x_1.2.1 cx_1_1) x_1.2.1] ++ [Ch.own n0 n0 (Sl a25 r22 c26) r22, Ch.ro 0 (Sl alist_0 list_0 clist_0) list_0, Ch.ro 0 (Sl ax_1_1 x_1.2.1 cx_1_1) x_1.2.1, Ch.bx n0 b1 0 [(I x_1.1), (Sl ax_1_1 x_1.2.1 cx_1_1), (I x_1.2.2)] [] []]) from (H.sel' [2, 0, 1, 2, 3] rfl rfl))) (wanted_none _ rfl _) ?_
        rintro _ σ35 ⟨_, ⟨a33, c34, rfl, rfl⟩, H, -⟩
        replace H : Hp S0 σ0 σ35 [Ch.own n0 n0 (Sl a33 r30.2.1 c34) r30.2.1, Ch.own n0 n0 (Sl a25 r22 c26) r22, Ch.ro 0 (Sl alist_0 list_0 clist_0) list_0, Ch.ro 0 (Sl ax_1_1 x_1.2.1 cx_1_1) x_1.2.1, Ch.bx n0 b1 0 [(I x_1.1), (Sl ax_1_1 x_1.2.1 cx_1_1), (I x_1.2.2)] [] []] := H
        obtain ⟨x36, hx37, h'⟩ := bind_some h
        clear h
        have h := h'; clear h'
        obtain ⟨b39, o40, hi38, -⟩ := (H.own 1 rfl).ix hx37
        refine st (v := (pt b39 o40)) (rv_ix Try.underlying23 ti29 rfl rfl hi38) ?_
        obtain ⟨σ41, hw42, H, -⟩ := H.pub 0 rfl (Nat.le_refl _)
        rw [← hw42]; clear hw42
        refine st_exS (ex_store_own (e' := (r30.1, r30.2.1, r30.2.2)) (vs := [(I r30.1), (Sl a33 r30.2.1 c34), (I r30.2.2)]) (k := 0) H (i := 1) rfl ti29 hx37 hi38 rfl rfl rfl rfl rfl (Nat.le_of_ble_eq_true rfl) (by simp [plain]) (by rintro _ ⟨_, _, rfl, rfl, ⟨_, _, rfl, ⟨_, rfl, hR45⟩, rfl⟩⟩; exact ⟨[(I r30.1)], [(Sl a33 r30.2.1 c34), (I r30.2.2)], rfl, rfl, ⟨[(Sl a33 r30.2.1 c34)], [(I r30.2.2)], rfl, ⟨_, rfl, (H.ro 0 rfl)⟩, rfl⟩⟩)) (wanted_none _ rfl _) ?_
        rintro σ46 ⟨H, -⟩
        have hsl : (Sl a25 r22 c26) = (Sl a25 (r22.set r17.1.toNat (r30.1, r30.2.1, r30.2.2)) c26) := sl_len List.length_set.symm
        rw [hsl]; rw [hsl] at H; clear hsl
        refine w_end ?_
        refine q_then ?_
        refine c_seq ?_
        refine rg ?_
        refine st (v := (Sl a25 (r22.set r17.1.toNat (r30.1, r30.2.1, r30.2.2)) c26)) (rv_move rfl) ?_
        refine st (v := (Sl a25 (r22.set r17.1.toNat (r30.1, r30.2.1, r30.2.2)) c26)) (rv_assign rfl) ?_
        refine st (v := (B true)) (rv_assign rfl) ?_
        refine w_end ?_
        refine q_then ?_
        refine c_ret ?_
        refine q_then_r ?_
        replace H := H.ownLow 0 0 0 rfl (Nat.zero_le _) (Nat.zero_le _)
        obtain rfl := Option.some.inj h
        exact fin_ret (v := (.tuple #[(Sl a25 (r22.set r17.1.toNat (r30.1, r30.2.1, r30.2.2)) c26), (B true)])) (results_ok Try.results17 (res_tmp (v := (Sl a25 (r22.set r17.1.toNat (r30.1, r30.2.1, r30.2.2)) c26)) rfl (res_tmp (v := (B true)) rfl res_nil)) rfl) ⟨a25, c26, rfl, rfl⟩ (H.sel' [0] rfl rfl)
      · replace h := bif_f hb21 h
        refine c_skip ?_
        refine q_then ?_
        refine c_seq ?_
        refine c_seq ?_
        refine rg ?_
        refine st (v := (Sl alist_0 list_0 clist_0)) (rv_move rfl) ?_
        refine st (v := (I (list_0.length : Int))) (rv_len Try.underlying23 rfl) ?_
        refine st (v := (B ((list_0.length : Int) == 16))) (rv_eql (a := (list_0.length : Int)) (b := 16) rfl rfl) ?_
        refine w_end ?_
        refine q_then ?_
        refine cd_cond ((list_0.length : Int) == 16) rfl (fun hb47 => ?_) (fun hb47 => ?_)
        · replace h := bif_t hb47 h
          refine c_seq ?_
          refine rg ?_
          refine st (v := (.slice none 0 0)) (rv_assign rfl) ?_
          refine st (v := (B false)) (rv_assign rfl) ?_
          refine w_end ?_
          refine q_then ?_
          refine c_ret ?_
          refine q_then_r ?_
          replace H := H.nilOwn (Int × (List Int) × Int) 0 0
          obtain rfl := Option.some.inj h
          exact fin_ret (v := (.tuple #[(.slice none 0 0), (B false)])) (results_ok Try.results17 (res_tmp (v := (.slice none 0 0)) rfl (res_tmp (v := (B false)) rfl res_nil)) rfl) ⟨none, 0, rfl, rfl⟩ (H.sel' [0] rfl rfl)
        · replace h := bif_f hb47 h
          refine c_skip ?_
          refine q_then ?_
          refine c_seq ?_
          obtain ⟨r48, hx49, h'⟩ := bind_some h
          clear h
          have h := h'; clear h'
          have hc50 := c_impl_copyItems (alist_0 := alist_0) (clist_0 := clist_0) hx49
          have hc54 := H.cells 2 rfl
          obtain ⟨r55, hx56, h'⟩ := bind_some h
          clear h
          have h := h'; clear h'
          have hc57 := c_impl_copyItem (ax_0_1 := ax_1_1) (cx_0_1 := cx_1_1) hx56
          have Hs := H
          refine rg2 (σ := σ20) (Nm := (Option Addr) × (Nat) × (Option Addr) × (Nat) × (Nat)) 6 [1, 4, 5] [[false, false, false], [true, false, false], [true, true, false], [true, true, true]] [[(0, 0)], [(0, 1)], [(0, 0), (1, 1), (2, 2), (3, 3)], [(0, 0), (1, 1)], [(1, 2)], [(2, 3)]] 3 [fun ((a51, c52, a58, c59, b60) : (Option Addr) × (Nat) × (Option Addr) × (Nat) × (Nat)) => fun σm => Hp S0 σ0 σm [Ch.ro 0 (Sl alist_0 list_0 clist_0) list_0, Ch.ro 0 (Sl ax_1_1 x_1.2.1 cx_1_1) x_1.2.1, Ch.bx n0 b1 0 [(I x_1.1), (Sl ax_1_1 x_1.2.1 cx_1_1), (I x_1.2.2)] [] []] ∧ Md (cov []) σ20 σm, fun ((a51, c52, a58, c59, b60) : (Option Addr) × (Nat) × (Option Addr) × (Nat) × (Nat)) => fun σm => Hp S0 σ0 σm [Ch.own n0 n0 (Sl a51 r48 c52) r48, Ch.ro 0 (Sl alist_0 list_0 clist_0) list_0, Ch.ro 0 (Sl ax_1_1 x_1.2.1 cx_1_1) x_1.2.1, Ch.bx n0 b1 0 [(I x_1.1), (Sl ax_1_1 x_1.2.1 cx_1_1), (I x_1.2.2)] [] []] ∧ Md (cov []) σ20 σm ∧ c52 = r48.length, fun ((a51, c52, a58, c59, b60) : (Option Addr) × (Nat) × (Option Addr) × (Nat) × (Nat)) => fun σm => Hp S0 σ0 σm [Ch.ro n0 (Sl a58 r55.2.1 c59) r55.2.1, Ch.own n0 n0 (Sl a51 r48 c52) r48, Ch.ro 0 (Sl alist_0 list_0 clist_0) list_0, Ch.ro 0 (Sl ax_1_1 x_1.2.1 cx_1_1) x_1.2.1, Ch.bx n0 b1 0 [(I x_1.1), (Sl ax_1_1 x_1.2.1 cx_1_1), (I x_1.2.2)] [] []] ∧ Md (fun i => (cov []) i ∨ (fun i => (cov [Ch.ro 0 (Sl ax_1_1 x_1.2.1 cx_1_1) x_1.2.1]) i ∨ (fun b => blk (Sl a58 r55.2.1 c59) = some b) i) i) σ20 σm ∧ c52 = r48.length, fun ((a51, c52, a58, c59, b60) : (Option Addr) × (Nat) × (Option Addr) × (Nat) × (Nat)) => fun σm => Hp S0 σ0 σm [Ch.own n0 n0 (Sl (some ⟨b60, 0, none⟩) ([(r55.1, r55.2.1, r55.2.2)] : List (Int × (List Int) × Int)) 1) ([(r55.1, r55.2.1, r55.2.2)] : List (Int × (List Int) × Int)), Ch.ro n0 (Sl a58 r55.2.1 c59) r55.2.1, Ch.own n0 n0 (Sl a51 r48 c52) r48, Ch.ro 0 (Sl alist_0 list_0 clist_0) list_0, Ch.ro 0 (Sl ax_1_1 x_1.2.1 cx_1_1) x_1.2.1, Ch.bx n0 b1 0 [(I x_1.1), (Sl ax_1_1 x_1.2.1 cx_1_1), (I x_1.2.2)] [] []] ∧ Md (fun i => (cov []) i ∨ (fun i => (cov [Ch.ro 0 (Sl ax_1_1 x_1.2.1 cx_1_1) x_1.2.1]) i ∨ (fun b => blk (Sl a58 r55.2.1 c59) = some b) i) i) σ20 σm ∧ c52 = r48.length] [fun ((a51, c52, a58, c59, b60) : (Option Addr) × (Nat) × (Option Addr) × (Nat) × (Nat)) => (Sl alist_0 list_0 clist_0), fun ((a51, c52, a58, c59, b60) : (Option Addr) × (Nat) × (Option Addr) × (Nat) × (Nat)) => (Sl a51 r48 c52), fun ((a51, c52, a58, c59, b60) : (Option Addr) × (Nat) × (Option Addr) × (Nat) × (Nat)) => (I r17.1), fun ((a51, c52, a58, c59, b60) : (Option Addr) × (Nat) × (Option Addr) × (Nat) × (Nat)) => (.agg #[(I x_1.1), (Sl ax_1_1 x_1.2.1 cx_1_1), (I x_1.2.2)]), fun ((a51, c52, a58, c59, b60) : (Option Addr) × (Nat) × (Option Addr) × (Nat) × (Nat)) => (.agg #[(I r55.1), (Sl a58 r55.2.1 c59), (I r55.2.2)]), fun ((a51, c52, a58, c59, b60) : (Option Addr) × (Nat) × (Option Addr) × (Nat) × (Nat)) => (Sl (some ⟨b60, 0, none⟩) ([(r55.1, r55.2.1, r55.2.2)] : List (Int × (List Int) × Int)) 1)] (none, 0, none, 0, 0) (by kernel_rfl) (by kernel_rfl) ?_ ?_ ?_
          · intro σm m0
            exact ⟨H.grow (m0.mono fun _ h => h.elim), m0⟩
          · refine all_cons (obs_v rfl (by
                intro k; rintro ⟨a51, c52, a58, c59, b60⟩ ρ σm hJ hoff hdep
                have e0 : look 43 ρ 0 = (Sl alist_0 list_0 clist_0) := look_off (hoff 0 rfl) rfl
                exact dp_v (v := (Sl alist_0 list_0 clist_0)) (wanted_none _ rfl _) (rv_move e0) rfl hJ)) ?_
            refine all_cons (by
                refine ⟨?_, ?_⟩
                · rintro ⟨a51, c52, a58, c59, b60⟩ ρ σm hJ hoff hdep
                  have e36 : look 43 ρ 36 = (Sl alist_0 list_0 clist_0) := hdep 0 rfl rfl 36 rfl
                  obtain ⟨H, m⟩ := (show Hp S0 σ0 σm [Ch.ro 0 (Sl alist_0 list_0 clist_0) list_0, Ch.ro 0 (Sl ax_1_1 x_1.2.1 cx_1_1) x_1.2.1, Ch.bx n0 b1 0 [(I x_1.1), (Sl ax_1_1 x_1.2.1 cx_1_1), (I x_1.2.2)] [] []] ∧ Md (cov []) σ20 σm from hJ)
                  refine dp_cx (wanted_none _ rfl _) (cx_call hc50 (ent_f hc50.fn (by show [look 43 ρ 36] = _; rw [e36])) hn0 (show Hp S0 σ0 _ ([Ch.ro 0 (Sl alist_0 list_0 clist_0) list_0] ++ [Ch.ro 0 (Sl alist_0 list_0 clist_0) list_0, Ch.ro 0 (Sl ax_1_1 x_1.2.1 cx_1_1) x_1.2.1, Ch.bx n0 b1 0 [(I x_1.1), (Sl ax_1_1 x_1.2.1 cx_1_1), (I x_1.2.2)] [] []]) from (H.sel' [0, 0, 1, 2] rfl rfl))) ?_
                  rintro _ σq ⟨_, ⟨a51x, c52x, rfl, rfl, ht53⟩, H2, m2⟩
                  exact ⟨_, (a51x, c52x, a58, c59, b60), rfl, rfl, ⟨H2.sel' [0, 1, 2, 3] rfl rfl, m.comp0 (m2.mono (fun i h => by simp [cov, Ch.ro] at h)), ht53⟩, stab [0, 2, 3] (by kernel_rfl) ⟨rfl, rfl, rfl, trivial⟩⟩
                trivial) ?_
            refine all_cons (obs_v rfl (by
                intro k; rintro ⟨a51, c52, a58, c59, b60⟩ ρ σm hJ hoff hdep
                have e6 : look 43 ρ 6 = (I r17.1) := look_off (hoff 6 rfl) rfl
                exact dp_v (v := (I r17.1)) (wanted_none _ rfl _) (rv_move e6) rfl hJ)) ?_
            refine all_cons (by
                refine ⟨?_, ?_⟩
                · rintro ⟨a51, c52, a58, c59, b60⟩ ρ σm hJ hoff hdep
                  have e3 : look 43 ρ 3 = (pt b1 0) := look_off (hoff 3 rfl) rfl
                  obtain ⟨H, m⟩ := (show Hp S0 σ0 σm [Ch.ro 0 (Sl alist_0 list_0 clist_0) list_0, Ch.ro 0 (Sl ax_1_1 x_1.2.1 cx_1_1) x_1.2.1, Ch.bx n0 b1 0 [(I x_1.1), (Sl ax_1_1 x_1.2.1 cx_1_1), (I x_1.2.2)] [] []] ∧ Md (cov []) σ20 σm from hJ)
                  have hc54 := H.cells 2 rfl
                  exact dp_v (v := (.agg #[(I x_1.1), (Sl ax_1_1 x_1.2.1 cx_1_1), (I x_1.2.2)])) (wanted_none _ rfl _) (rv_load (cs := [(I x_1.1), (Sl ax_1_1 x_1.2.1 cx_1_1), (I x_1.2.2)]) Try.underlying29 rfl ti29 e3 rfl hc54) rfl hJ
                refine ⟨?_, ?_⟩
                · rintro ⟨a51, c52, a58, c59, b60⟩ ρ σm hJ hoff hdep
                  have e3 : look 43 ρ 3 = (pt b1 0) := look_off (hoff 3 rfl) rfl
                  obtain ⟨H, m, ht53⟩ := (show Hp S0 σ0 σm [Ch.own n0 n0 (Sl a51 r48 c52) r48, Ch.ro 0 (Sl alist_0 list_0 clist_0) list_0, Ch.ro 0 (Sl ax_1_1 x_1.2.1 cx_1_1) x_1.2.1, Ch.bx n0 b1 0 [(I x_1.1), (Sl ax_1_1 x_1.2.1 cx_1_1), (I x_1.2.2)] [] []] ∧ Md (cov []) σ20 σm ∧ c52 = r48.length from hJ)
                  have hc54 := H.cells 3 rfl
                  exact dp_v (v := (.agg #[(I x_1.1), (Sl ax_1_1 x_1.2.1 cx_1_1), (I x_1.2.2)])) (wanted_none _ rfl _) (rv_load (cs := [(I x_1.1), (Sl ax_1_1 x_1.2.1 cx_1_1), (I x_1.2.2)]) Try.underlying29 rfl ti29 e3 rfl hc54) rfl hJ
                trivial) ?_
            refine all_cons (by
                refine ⟨?_, ?_⟩
                · rintro ⟨a51, c52, a58, c59, b60⟩ ρ σm hJ hoff hdep
                  have e39 : look 43 ρ 39 = (.agg #[(I x_1.1), (Sl ax_1_1 x_1.2.1 cx_1_1), (I x_1.2.2)]) := hdep 3 rfl rfl 39 rfl
                  obtain ⟨H, m, ht53⟩ := (show Hp S0 σ0 σm [Ch.own n0 n0 (Sl a51 r48 c52) r48, Ch.ro 0 (Sl alist_0 list_0 clist_0) list_0, Ch.ro 0 (Sl ax_1_1 x_1.2.1 cx_1_1) x_1.2.1, Ch.bx n0 b1 0 [(I x_1.1), (Sl ax_1_1 x_1.2.1 cx_1_1), (I x_1.2.2)] [] []] ∧ Md (cov []) σ20 σm ∧ c52 = r48.length from hJ)
                  refine dp_cx (wanted_none _ rfl _) (cx_call hc57 (ent_f hc57.fn (by show [look 43 ρ 39] = _; rw [e39])) hn0 (show Hp S0 σ0 _ ([Ch.ro 0 (Sl ax_1_1 x_1.2.1 cx_1_1) x_1.2.1] ++ [Ch.own n0 n0 (Sl a51 r48 c52) r48, Ch.ro 0 (Sl alist_0 list_0 clist_0) list_0, Ch.ro 0 (Sl ax_1_1 x_1.2.1 cx_1_1) x_1.2.1, Ch.bx n0 b1 0 [(I x_1.1), (Sl ax_1_1 x_1.2.1 cx_1_1), (I x_1.2.2)] [] []]) from (H.sel' [2, 0, 1, 2, 3] rfl rfl))) ?_
                  rintro _ σq ⟨_, ⟨a58x, c59x, rfl, rfl⟩, H2, m2⟩
                  obtain ⟨σr0, hwr0, H2, mr0⟩ := H2.pub 0 rfl (Nat.le_refl _)
                  exact ⟨_, (a51, c52, a58x, c59x, b60), hwr0, rfl, ⟨H2.sel' [0, 1, 2, 3, 4] rfl rfl, m.comp (m2.comp mr0), ht53⟩, stab [0, 1, 2, 3] (by kernel_rfl) ⟨rfl, rfl, rfl, rfl, trivial⟩⟩
                trivial) ?_
            refine all_cons (by
                refine ⟨?_, ?_⟩
                · rintro ⟨a51, c52, a58, c59, b60⟩ ρ σm hJ hoff hdep
                  have e40 : look 43 ρ 40 = (.agg #[(I r55.1), (Sl a58 r55.2.1 c59), (I r55.2.2)]) := hdep 4 rfl rfl 40 rfl
                  obtain ⟨H, m, ht53⟩ := (show Hp S0 σ0 σm [Ch.ro n0 (Sl a58 r55.2.1 c59) r55.2.1, Ch.own n0 n0 (Sl a51 r48 c52) r48, Ch.ro 0 (Sl alist_0 list_0 clist_0) list_0, Ch.ro 0 (Sl ax_1_1 x_1.2.1 cx_1_1) x_1.2.1, Ch.bx n0 b1 0 [(I x_1.1), (Sl ax_1_1 x_1.2.1 cx_1_1), (I x_1.2.2)] [] []] ∧ Md (fun i => (cov []) i ∨ (fun i => (cov [Ch.ro 0 (Sl ax_1_1 x_1.2.1 cx_1_1) x_1.2.1]) i ∨ (fun b => blk (Sl a58 r55.2.1 c59) = some b) i) i) σ20 σm ∧ c52 = r48.length from hJ)
                  refine dp_ex (wanted_none _ rfl _) (ex_buildSlice (el := n0) (xs := ([(r55.1, r55.2.1, r55.2.2)] : List (Int × (List Int) × Int))) (ps := [(0, (.agg #[(I r55.1), (Sl a58 r55.2.1 c59), (I r55.2.2)]))]) (cs := [(I r55.1), (Sl a58 r55.2.1 c59), (I r55.2.2)]) H hn0 Try.underlying23 ti29 rfl (by show [(0, look 43 ρ 40)] = _; rw [e40]) (by kernel_rfl) (.cons (c := [(I r55.1), (Sl a58 r55.2.1 c59), (I r55.2.2)]) ⟨[(I r55.1)], [(Sl a58 r55.2.1 c59), (I r55.2.2)], rfl, rfl, ⟨[(Sl a58 r55.2.1 c59)], [(I r55.2.2)], rfl, ⟨_, rfl, (H.ro 0 rfl)⟩, rfl⟩⟩ (.nil)) rfl) ?_
                  rintro _ σq ⟨b60x, rfl, H2, m2⟩
                  exact ⟨_, (a51, c52, a58, c59, b60x), rfl, rfl, ⟨H2.sel' [0, 1, 2, 3, 4, 5] rfl rfl, m.comp0 m2, ht53⟩, stab [0, 1, 2, 3, 4] (by kernel_rfl) ⟨rfl, rfl, rfl, rfl, rfl, trivial⟩⟩
                trivial) ?_
            exact all_nil
          · rintro ⟨a51, c52, a58, c59, b60⟩ ρ σ61 hJ hoff hrel
            have e37 : look 43 ρ 37 = (Sl a51 r48 c52) := hrel 1 rfl 37 rfl
            have e38 : look 43 ρ 38 = (I r17.1) := hrel 2 rfl 38 rfl
            have e41 : look 43 ρ 41 = (Sl (some ⟨b60, 0, none⟩) ([(r55.1, r55.2.1, r55.2.2)] : List (Int × (List Int) × Int)) 1) := hrel 5 rfl 41 rfl
            obtain ⟨H, -, ht53⟩ := (show Hp S0 σ0 σ61 [Ch.own n0 n0 (Sl (some ⟨b60, 0, none⟩) ([(r55.1, r55.2.1, r55.2.2)] : List (Int × (List Int) × Int)) 1) ([(r55.1, r55.2.1, r55.2.2)] : List (Int × (List Int) × Int)), Ch.ro n0 (Sl a58 r55.2.1 c59) r55.2.1, Ch.own n0 n0 (Sl a51 r48 c52) r48, Ch.ro 0 (Sl alist_0 list_0 clist_0) list_0, Ch.ro 0 (Sl ax_1_1 x_1.2.1 cx_1_1) x_1.2.1, Ch.bx n0 b1 0 [(I x_1.1), (Sl ax_1_1 x_1.2.1 cx_1_1), (I x_1.2.2)] [] []] ∧ Md (fun i => (cov []) i ∨ (fun i => (cov [Ch.ro 0 (Sl ax_1_1 x_1.2.1 cx_1_1) x_1.2.1]) i ∨ (fun b => blk (Sl a58 r55.2.1 c59) = some b) i) i) σ20 σ61 ∧ c52 = r48.length from hJ)
            clear hJ Hs
            rw [fr_lookL (L := [(37, (Sl a51 r48 c52)), (38, (I r17.1)), (41, (Sl (some ⟨b60, 0, none⟩) ([(r55.1, r55.2.1, r55.2.2)] : List (Int × (List Int) × Int)) 1))]) ⟨e37, e38, e41, trivial⟩]
            clear hoff hrel e37 e38 e41
            obtain ⟨σ62, hw63, H, -⟩ := H.pub 0 rfl (Nat.le_refl _)
            rw [← hw63]; clear hw63
            replace H := H.ownLow 2 0 0 rfl (Nat.zero_le _) (Nat.zero_le _)
            replace H := H.roLow 1 0 rfl (Nat.zero_le _)
            obtain ⟨r64, hx65, h'⟩ := bind_some h
            clear h
            have h := h'; clear h'
            have hc66 := c_slices_Insert_impl_Item_impl_Item (as_0 := a51) (cs_0 := c52) (hts_0 := ht53) (av_2 := (some ⟨b60, 0, none⟩)) (cv_2 := 1) hx65
            refine st_call (cx_call hc66 (ent_f hc66.fn rfl) hn0 (show Hp S0 σ0 _ ([Ch.own 0 0 (Sl a51 r48 c52) r48, Ch.ro 0 (Sl (some ⟨b60, 0, none⟩) ([(r55.1, r55.2.1, r55.2.2)] : List (Int × (List Int) × Int)) 1) ([(r55.1, r55.2.1, r55.2.2)] : List (Int × (List Int) × Int))] ++ [Ch.ro 0 (Sl (some ⟨b60, 0, none⟩) ([(r55.1, r55.2.1, r55.2.2)] : List (Int × (List Int) × Int)) 1) ([(r55.1, r55.2.1, r55.2.2)] : List (Int × (List Int) × Int)), Ch.ro n0 (Sl (some ⟨b60, 0, none⟩) ([(r55.1, r55.2.1, r55.2.2)] : List (Int × (List Int) × Int)) 1) ([(r55.1, r55.2.1, r55.2.2)] : List (Int × (List Int) × Int)), Ch.ro n0 (Sl a58 r55.2.1 c59) r55.2.1, Ch.ro 0 (Sl alist_0 list_0 clist_0) list_0, Ch.ro 0 (Sl ax_1_1 x_1.2.1 cx_1_1) x_1.2.1, Ch.bx n0 b1 0 [(I x_1.1), (Sl ax_1_1 x_1.2.1 cx_1_1), (I x_1.2.2)] [] []]) from (H.sel' [1, 0, 0, 2, 3, 4, 5, 6] rfl rfl))) (wanted_none _ rfl _) ?_
            rintro _ σ69 ⟨_, ⟨a67, c68, rfl, rfl⟩, H, -⟩
            replace H : Hp S0 σ0 σ69 [Ch.own 0 0 (Sl a67 r64 c68) r64, Ch.ro 0 (Sl (some ⟨b60, 0, none⟩) ([(r55.1, r55.2.1, r55.2.2)] : List (Int × (List Int) × Int)) 1) ([(r55.1, r55.2.1, r55.2.2)] : List (Int × (List Int) × Int)), Ch.ro n0 (Sl (some ⟨b60, 0, none⟩) ([(r55.1, r55.2.1, r55.2.2)] : List (Int × (List Int) × Int)) 1) ([(r55.1, r55.2.1, r55.2.2)] : List (Int × (List Int) × Int)), Ch.ro n0 (Sl a58 r55.2.1 c59) r55.2.1, Ch.ro 0 (Sl alist_0 list_0 clist_0) list_0, Ch.ro 0 (Sl ax_1_1 x_1.2.1 cx_1_1) x_1.2.1, Ch.bx n0 b1 0 [(I x_1.1), (Sl ax_1_1 x_1.2.1 cx_1_1), (I x_1.2.2)] [] []] := H
            refine st (v := (Sl a67 r64 c68)) (rv_assign rfl) ?_
            refine st (v := (B true)) (rv_assign rfl) ?_
            refine w_end ?_
            refine q_then ?_
            refine c_ret ?_
            obtain rfl := Option.some.inj h
            exact fin_ret (v := (.tuple #[(Sl a67 r64 c68), (B true)])) (results_ok Try.results17 (res_tmp (v := (Sl a67 r64 c68)) rfl (res_tmp (v := (B true)) rfl res_nil)) rfl) ⟨a67, c68, rfl, rfl⟩ (H.sel' [0] rfl rfl)

theorem c_laws_equalInts {a_0 : List Int} {b_1 : List Int} {aa_0 : Option Addr} {ca_0 : Nat} {ab_1 : Option Addr} {cb_1 : Nat} {r : Bool} (h : M.laws_equalInts a_0 b_1 = some r) :
    Cal2 Try.prog 30 [(Sl aa_0 a_0 ca_0), (Sl ab_1 b_1 cb_1)] [Ch.ro 0 (Sl aa_0 a_0 ca_0) a_0, Ch.ro 0 (Sl ab_1 b_1 cb_1) b_1] (fun n0 v L => v = (B r) ∧ L = []) := by
  refine cal2 (n := 26) Try.func30 rfl rfl rfl rfl ?_
  intro S0 σ0 n0 hn0 H
  unfold M.laws_equalInts at h
  refine c_seq ?_
  refine rg ?_
  refine st (v := (B false)) (rv_assign rfl) ?_
  refine w_end ?_
  refine q_then ?_
  refine c_seq ?_
  refine c_seq ?_
  refine rg ?_
  refine st (v := (Sl aa_0 a_0 ca_0)) (rv_move rfl) ?_
  refine st (v := (I (a_0.length : Int))) (rv_len Try.underlying27 rfl) ?_
  refine st (v := (Sl ab_1 b_1 cb_1)) (rv_move rfl) ?_
  refine st (v := (I (b_1.length : Int))) (rv_len Try.underlying27 rfl) ?_
  refine st (v := (B ((a_0.length : Int) != (b_1.length : Int)))) (rv_neq (a := (a_0.length : Int)) (b := (b_1.length : Int)) rfl rfl) ?_
  refine w_end ?_
  refine q_then ?_
  refine cd_cond ((a_0.length : Int) != (b_1.length : Int)) rfl (fun hb1 => ?_) (fun hb1 => ?_)
  · replace h := bif_t hb1 h
    refine c_seq ?_
    refine rg ?_
    refine st (v := (B false)) (rv_assign rfl) ?_
    refine w_end ?_
    refine q_then ?_
    refine c_ret ?_
    refine q_then_r ?_
    obtain rfl := Option.some.inj h
    exact fin_ret (v := (B false)) (results_ok Try.results30 (res_tmp (v := (B false)) rfl res_nil) rfl) ⟨rfl, rfl⟩ (H.sel' [] rfl rfl)
  · replace h := bif_f hb1 h
    refine c_skip ?_
    refine q_then ?_
    refine c_seq ?_
    refine c_seq ?_
    refine rg ?_
    refine st (v := (I 0)) (rv_assign rfl) ?_
    refine w_end ?_
    refine q_then ?_
    obtain ⟨o2, hj, h'⟩ := bind_some h
    clear h
    refine c_cut (fun e a w => (∃ t, o2 = (.inl t) ∧ e = .normal ∧ ∃ (ρ : Nat → Value) (σ : St), a = fr 26 (updL ρ []) ∧ w = σ.w ∧ Hp S0 σ0 σ []) ∨ (∃ t, o2 = (.inr t) ∧ e = .ret ∧ ∃ (ρ : Nat → Value) (σ : St), a = fr 26 (updL ρ [(4, (B t))]) ∧ w = σ.w ∧ Hp S0 σ0 σ [])) ?_ ?_
    · clear h'
      rename _ = some o2 => h
      refine c_blk ?_
      refine wp_loopM _ h (fun s3 a w => ∃ (ρ : Nat → Value) (σ : St), a = fr 26 (updL ρ [(0, (Sl aa_0 a_0 ca_0)), (1, (Sl ab_1 b_1 cb_1)), (5, (I s3))]) ∧ w = σ.w ∧ Hp S0 σ0 σ [Ch.ro 0 (Sl aa_0 a_0 ca_0) a_0, Ch.ro 0 (Sl ab_1 b_1 cb_1) b_1]) ⟨_, σ0, fr_join ⟨rfl, rfl, rfl, trivial⟩, rfl, H.sel' [0, 1] rfl rfl⟩ ?_
      clear h H
      rintro s3 a w o ⟨ρ, σ4, rfl, rfl, H⟩ h hres
      refine c_seq ?_
      refine c_seq ?_
      refine rg ?_
      refine st (v := (I s3)) (rv_move rfl) ?_
      refine st (v := (Sl aa_0 a_0 ca_0)) (rv_move rfl) ?_
      refine st (v := (I (a_0.length : Int))) (rv_len Try.underlying27 rfl) ?_
      refine st (v := (B (decide (s3 < (a_0.length : Int))))) (rv_lss (a := s3) (b := (a_0.length : Int)) rfl rfl) ?_
      refine w_end ?_
      refine q_then ?_
      refine cd_cond (decide (s3 < (a_0.length : Int))) rfl (fun hb5 => ?_) (fun hb5 => ?_)
      · replace h := bif_t hb5 h
        refine c_skip ?_
        refine q_then ?_
        refine c_seq ?_
        refine c_blk ?_
        refine c_seq ?_
        obtain ⟨x6, hx7, h'⟩ := bind_some h
        clear h
        have h := h'; clear h'
        obtain ⟨b9, o10, hi8, -⟩ := (H.ro 0 rfl).ix hx7
        have hc11 := ((H.ro 0 rfl).at hx7 hi8).int
        obtain ⟨x12, hx13, h'⟩ := bind_some h
        clear h
        have h := h'; clear h'
        obtain ⟨b15, o16, hi14, -⟩ := (H.ro 1 rfl).ix hx13
        have hc17 := ((H.ro 1 rfl).at hx13 hi14).int
        have Hs := H
        refine rg2 (σ := σ4) (Nm := Unit) 8 [] [[]] [[(0, 0)], [(0, 0)], [(0, 0)], [(0, 0)], [(0, 0)], [(0, 0)], [(0, 0)], [(0, 0)]] 0 [fun (_nm : Unit) => fun σm => Hp S0 σ0 σm [Ch.ro 0 (Sl aa_0 a_0 ca_0) a_0, Ch.ro 0 (Sl ab_1 b_1 cb_1) b_1] ∧ Md (cov []) σ4 σm] [fun (_nm : Unit) => (Sl aa_0 a_0 ca_0), fun (_nm : Unit) => (I s3), fun (_nm : Unit) => (pt b9 o10), fun (_nm : Unit) => (I x6), fun (_nm : Unit) => (Sl ab_1 b_1 cb_1), fun (_nm : Unit) => (I s3), fun (_nm : Unit) => (pt b15 o16), fun (_nm : Unit) => (I x12)] () (by kernel_rfl) (by kernel_rfl) ?_ ?_ ?_
        · intro σm m0
          exact ⟨H.grow (m0.mono fun _ h => h.elim), m0⟩
        · refine all_cons (obs_v rfl (by
              intro k; intro _nm ρ σm hJ hoff hdep
              have e0 : look 26 ρ 0 = (Sl aa_0 a_0 ca_0) := look_off (hoff 0 rfl) rfl
              exact dp_v (v := (Sl aa_0 a_0 ca_0)) (wanted_none _ rfl _) (rv_move e0) rfl hJ)) ?_
          refine all_cons (obs_v rfl (by
              intro k; intro _nm ρ σm hJ hoff hdep
              have e5 : look 26 ρ 5 = (I s3) := look_off (hoff 5 rfl) rfl
              exact dp_v (v := (I s3)) (wanted_none _ rfl _) (rv_move e5) rfl hJ)) ?_
          refine all_cons (obs_v rfl (by
              intro k; intro _nm ρ σm hJ hoff hdep
              have e17 : look 26 ρ 17 = (Sl aa_0 a_0 ca_0) := hdep 0 rfl rfl 17 rfl
              have e18 : look 26 ρ 18 = (I s3) := hdep 1 rfl rfl 18 rfl
              exact dp_v (v := (pt b9 o10)) (wanted_none _ rfl _) (rv_ix Try.underlying27 ti3 e17 e18 hi8) rfl hJ)) ?_
          refine all_cons (by
              refine ⟨?_, ?_⟩
              · intro _nm ρ σm hJ hoff hdep
                have e19 : look 26 ρ 19 = (pt b9 o10) := hdep 2 rfl rfl 19 rfl
                obtain ⟨H, m⟩ := (show Hp S0 σ0 σm [Ch.ro 0 (Sl aa_0 a_0 ca_0) a_0, Ch.ro 0 (Sl ab_1 b_1 cb_1) b_1] ∧ Md (cov []) σ4 σm from hJ)
                replace hc11 := (Hs.ro 0 rfl).hmd hx7 hi8 (k := 0) (by decide) hc11 m
                exact dp_v (v := (I x6)) (wanted_none _ rfl _) (rv_load1 Try.underlying3 rfl e19 hc11) rfl hJ
              trivial) ?_
          refine all_cons (obs_v rfl (by
              intro k; intro _nm ρ σm hJ hoff hdep
              have e1 : look 26 ρ 1 = (Sl ab_1 b_1 cb_1) := look_off (hoff 1 rfl) rfl
              exact dp_v (v := (Sl ab_1 b_1 cb_1)) (wanted_none _ rfl _) (rv_move e1) rfl hJ)) ?_
          refine all_cons (obs_v rfl (by
              intro k; intro _nm ρ σm hJ hoff hdep
              have e5 : look 26 ρ 5 = (I s3) := look_off (hoff 5 rfl) rfl
              exact dp_v (v := (I s3)) (wanted_none _ rfl _) (rv_move e5) rfl hJ)) ?_
          refine all_cons (obs_v rfl (by
              intro k; intro _nm ρ σm hJ hoff hdep
              have e21 : look 26 ρ 21 = (Sl ab_1 b_1 cb_1) := hdep 4 rfl rfl 21 rfl
              have e22 : look 26 ρ 22 = (I s3) := hdep 5 rfl rfl 22 rfl
              exact dp_v (v := (pt b15 o16)) (wanted_none _ rfl _) (rv_ix Try.underlying27 ti3 e21 e22 hi14) rfl hJ)) ?_
          refine all_cons (by
              refine ⟨?_, ?_⟩
              · intro _nm ρ σm hJ hoff hdep
                have e23 : look 26 ρ 23 = (pt b15 o16) := hdep 6 rfl rfl 23 rfl
                obtain ⟨H, m⟩ := (show Hp S0 σ0 σm [Ch.ro 0 (Sl aa_0 a_0 ca_0) a_0, Ch.ro 0 (Sl ab_1 b_1 cb_1) b_1] ∧ Md (cov []) σ4 σm from hJ)
                replace hc17 := (Hs.ro 1 rfl).hmd hx13 hi14 (k := 0) (by decide) hc17 m
                exact dp_v (v := (I x12)) (wanted_none _ rfl _) (rv_load1 Try.underlying3 rfl e23 hc17) rfl hJ
              trivial) ?_
          exact all_nil
        · intro _nm ρ σ18 hJ hoff hrel
          have e0 : look 26 ρ 0 = (Sl aa_0 a_0 ca_0) := look_off (hoff 0 rfl) rfl
          have e1 : look 26 ρ 1 = (Sl ab_1 b_1 cb_1) := look_off (hoff 1 rfl) rfl
          have e5 : look 26 ρ 5 = (I s3) := look_off (hoff 5 rfl) rfl
          have e20 : look 26 ρ 20 = (I x6) := hrel 3 rfl 20 rfl
          have e24 : look 26 ρ 24 = (I x12) := hrel 7 rfl 24 rfl
          obtain ⟨H, -⟩ := (show Hp S0 σ0 σ18 [Ch.ro 0 (Sl aa_0 a_0 ca_0) a_0, Ch.ro 0 (Sl ab_1 b_1 cb_1) b_1] ∧ Md (cov []) σ4 σ18 from hJ)
          clear hJ Hs
          rw [fr_lookL (L := [(0, (Sl aa_0 a_0 ca_0)), (1, (Sl ab_1 b_1 cb_1)), (5, (I s3)), (20, (I x6)), (24, (I x12))]) ⟨e0, e1, e5, e20, e24, trivial⟩]
          clear hoff hrel e0 e1 e5 e20 e24
          refine st (v := (B (x6 != x12))) (rv_neq (a := x6) (b := x12) rfl rfl) ?_
          refine w_end ?_
          refine q_then ?_
          refine cd_cond (x6 != x12) rfl (fun hb19 => ?_) (fun hb19 => ?_)
          · replace h := bif_t hb19 h
            refine c_seq ?_
            refine rg ?_
            refine st (v := (B false)) (rv_assign rfl) ?_
            refine w_end ?_
            refine q_then ?_
            refine c_ret ?_
            refine q_blk_r ?_
            refine q_then_r ?_
            refine q_then_r ?_
            refine q_blk_r ?_
            obtain rfl := Option.some.inj h
            obtain rfl := hres _ rfl
            exact .inr (⟨_, rfl, rfl, _, σ18, fr_join ⟨rfl, trivial⟩, rfl, H.sel' [] rfl rfl⟩)
          · replace h := bif_f hb19 h
            refine c_skip ?_
            refine q_blk ?_
            refine q_then ?_
            refine rg ?_
            refine st (v := (I s3)) (rv_move rfl) ?_
            refine st (v := (I (w64 (s3 + 1)))) (rv_add (a := s3) (b := 1) rfl rfl) ?_
            refine st (v := (I (w64 (s3 + 1)))) (rv_assign rfl) ?_
            refine w_end ?_
            refine q_then ?_
            obtain rfl := Option.some.inj h
            exact ⟨_, rfl, _, σ18, fr_join ⟨rfl, rfl, rfl, trivial⟩, rfl, H.sel' [0, 1] rfl rfl⟩
      · replace h := bif_f hb5 h
        refine c_exit ?_
        refine q_then_x ?_
        refine q_then_x ?_
        refine q_blk_hit ?_
        obtain rfl := Option.some.inj h
        obtain rfl := hres _ rfl
        exact .inl ⟨_, rfl, rfl, _, σ4, fr_join trivial, rfl, H.sel' [] rfl rfl⟩
    · clear hj
      have h := h'
      clear h' H
      rintro e a w (⟨t20, rfl, rfl, ρ, σ21, rfl, rfl, H⟩ | ⟨t22, rfl, rfl, ρ, σ23, rfl, rfl, H⟩)
      · replace h := selim_l h
        refine q_then ?_
        refine c_seq ?_
        refine rg ?_
        refine st (v := (B true)) (rv_assign rfl) ?_
        refine w_end ?_
        refine q_then ?_
        refine c_ret ?_
        obtain rfl := Option.some.inj h
        exact fin_ret (v := (B true)) (results_ok Try.results30 (res_tmp (v := (B true)) rfl res_nil) rfl) ⟨rfl, rfl⟩ (H.sel' [] rfl rfl)
      · replace h := selim_r h
        refine q_then_r ?_
        obtain rfl := Option.some.inj h
        exact fin_ret (v := (B t22)) (results_ok Try.results30 (res_tmp (v := (B t22)) rfl res_nil) rfl) ⟨rfl, rfl⟩ (H.sel' [] rfl rfl)

theorem c_laws_equalItems {a_0 : List (Int × (List Int) × Int)} {b_1 : List (Int × (List Int) × Int)} {aa_0 : Option Addr} {ca_0 : Nat} {ab_1 : Option Addr} {cb_1 : Nat} {r : Bool} (h : M.laws_equalItems a_0 b_1 = some r) :
    Cal2 Try.prog 19 [(Sl aa_0 a_0 ca_0), (Sl ab_1 b_1 cb_1)] [Ch.ro 0 (Sl aa_0 a_0 ca_0) a_0, Ch.ro 0 (Sl ab_1 b_1 cb_1) b_1] (fun n0 v L => v = (B r) ∧ L = []) := by
  refine cal2 (n := 55) Try.func19 rfl rfl rfl rfl ?_
  intro S0 σ0 n0 hn0 H
  unfold M.laws_equalItems at h
  refine c_seq ?_
  refine rg ?_
  refine st (v := (B false)) (rv_assign rfl) ?_
  refine w_end ?_
  refine q_then ?_
  refine c_seq ?_
  refine c_seq ?_
  refine rg ?_
  refine st (v := (Sl aa_0 a_0 ca_0)) (rv_move rfl) ?_
  refine st (v := (I (a_0.length : Int))) (rv_len Try.underlying23 rfl) ?_
  refine st (v := (Sl ab_1 b_1 cb_1)) (rv_move rfl) ?_
  refine st (v := (I (b_1.length : Int))) (rv_len Try.underlying23 rfl) ?_
  refine st (v := (B ((a_0.length : Int) != (b_1.length : Int)))) (rv_neq (a := (a_0.length : Int)) (b := (b_1.length : Int)) rfl rfl) ?_
  refine w_end ?_
  refine q_then ?_
  refine cd_cond ((a_0.length : Int) != (b_1.length : Int)) rfl (fun hb1 => ?_) (fun hb1 => ?_)
  · replace h := bif_t hb1 h
    refine c_seq ?_
    refine rg ?_
    refine st (v := (B false)) (rv_assign rfl) ?_
    refine w_end ?_
    refine q_then ?_
    refine c_ret ?_
    refine q_then_r ?_
    obtain rfl := Option.some.inj h
    exact fin_ret (v := (B false)) (results_ok Try.results19 (res_tmp (v := (B false)) rfl res_nil) rfl) ⟨rfl, rfl⟩ (H.sel' [] rfl rfl)
  · replace h := bif_f hb1 h
    refine c_skip ?_
    refine q_then ?_
    refine c_seq ?_
    refine c_seq ?_
    refine rg ?_
    refine st (v := (I 0)) (rv_assign rfl) ?_
    refine w_end ?_
    refine q_then ?_
    obtain ⟨o2, hj, h'⟩ := bind_some h
    clear h
    refine c_cut (fun e a w => (∃ t, o2 = (.inl t) ∧ e = .normal ∧ ∃ (ρ : Nat → Value) (σ : St), a = fr 55 (updL ρ []) ∧ w = σ.w ∧ Hp S0 σ0 σ []) ∨ (∃ t, o2 = (.inr t) ∧ e = .ret ∧ ∃ (ρ : Nat → Value) (σ : St), a = fr 55 (updL ρ [(4, (B t))]) ∧ w = σ.w ∧ Hp S0 σ0 σ [])) ?_ ?_
    · clear h'
      rename _ = some o2 => h
      refine c_blk ?_
      refine wp_loopM _ h (fun s3 a w => ∃ (ρ : Nat → Value) (σ : St), a = fr 55 (updL ρ [(0, (Sl aa_0 a_0 ca_0)), (1, (Sl ab_1 b_1 cb_1)), (5, (I s3))]) ∧ w = σ.w ∧ Hp S0 σ0 σ [Ch.ro 0 (Sl aa_0 a_0 ca_0) a_0, Ch.ro 0 (Sl ab_1 b_1 cb_1) b_1]) ⟨_, σ0, fr_join ⟨rfl, rfl, rfl, trivial⟩, rfl, H.sel' [0, 1] rfl rfl⟩ ?_
      clear h H
      rintro s3 a w o ⟨ρ, σ4, rfl, rfl, H⟩ h hres
      refine c_seq ?_
      refine c_seq ?_
      refine rg ?_
      refine st (v := (I s3)) (rv_move rfl) ?_
      refine st (v := (Sl aa_0 a_0 ca_0)) (rv_move rfl) ?_
      refine st (v := (I (a_0.length : Int))) (rv_len Try.underlying23 rfl) ?_
      refine st (v := (B (decide (s3 < (a_0.length : Int))))) (rv_lss (a := s3) (b := (a_0.length : Int)) rfl rfl) ?_
      refine w_end ?_
      refine q_then ?_
      refine cd_cond (decide (s3 < (a_0.length : Int))) rfl (fun hb5 => ?_) (fun hb5 => ?_)
      · replace h := bif_t hb5 h
        refine c_skip ?_
        refine q_then ?_
        refine c_seq ?_
        refine c_blk ?_
        refine c_seq ?_
        obtain ⟨o6, hj, h'⟩ := bind_some h
        clear h
        refine c_cut (fun e a w => e = .normal ∧ ∃ (ρ : Nat → Value) (σ : St), a = fr 55 (updL ρ [(0, (Sl aa_0 a_0 ca_0)), (1, (Sl ab_1 b_1 cb_1)), (5, (I s3)), (54, (B o6))]) ∧ w = σ.w ∧ Hp S0 σ0 σ [Ch.ro 0 (Sl aa_0 a_0 ca_0) a_0, Ch.ro 0 (Sl ab_1 b_1 cb_1) b_1]) ?_ ?_
        · clear h'
          rename _ = some o6 => h
          obtain ⟨x7, hx8, h'⟩ := bind_some h
          clear h
          have h := h'; clear h'
          obtain ⟨b10, o11, hi9, -⟩ := (H.ro 0 rfl).ix hx8
          have hc12 := ((H.ro 0 rfl).at hx8 hi9).fst.int
          obtain ⟨x13, hx14, h'⟩ := bind_some h
          clear h
          have h := h'; clear h'
          obtain ⟨b16, o17, hi15, -⟩ := (H.ro 1 rfl).ix hx14
          have hc18 := ((H.ro 1 rfl).at hx14 hi15).fst.int
          rcases Bool.eq_false_or_eq_true (x7.1 != x13.1) with hb19 | hb19
          · replace h := bif_t hb19 h
            have Hs := H
            refine rg2 (σ := σ4) (Nm := Unit) 35 [] [[]] [[(0, 0)], [(0, 0)], [(0, 0)], [(0, 0)], [(0, 0)], [(0, 0)], [(0, 0)], [(0, 0)], [(0, 0)], [(0, 0)], [(0, 0)], [(0, 0)], [(0, 0)], [(0, 0)], [(0, 0)], [(0, 0)], [(0, 0)], [(0, 0)], [(0, 0)], [(0, 0)], [(0, 0)], [(0, 0)], [(0, 0)], [(0, 0)], [(0, 0)], [(0, 0)], [(0, 0)], [(0, 0)], [(0, 0)], [(0, 0)], [(0, 0)], [(0, 0)], [(0, 0)], [(0, 0)], [(0, 0)]] 0 [fun (_nm : Unit) => fun σm => Hp S0 σ0 σm [Ch.ro 0 (Sl aa_0 a_0 ca_0) a_0, Ch.ro 0 (Sl ab_1 b_1 cb_1) b_1] ∧ Md (cov []) σ4 σm] [fun (_nm : Unit) => (Sl aa_0 a_0 ca_0), fun (_nm : Unit) => (I s3), fun (_nm : Unit) => (pt b10 o11), fun (_nm : Unit) => (pt b10 (o11 + 0)), fun (_nm : Unit) => (I x7.1), fun (_nm : Unit) => (Sl ab_1 b_1 cb_1), fun (_nm : Unit) => (I s3), fun (_nm : Unit) => (pt b16 o17), fun (_nm : Unit) => (pt b16 (o17 + 0)), fun (_nm : Unit) => (I x13.1), fun (_nm : Unit) => (B (x7.1 != x13.1)), fun (_nm : Unit) => (B (x7.1 != x13.1)), fun (_nm : Unit) => undef, fun (_nm : Unit) => undef, fun (_nm : Unit) => undef, fun (_nm : Unit) => undef, fun (_nm : Unit) => undef, fun (_nm : Unit) => undef, fun (_nm : Unit) => undef, fun (_nm : Unit) => undef, fun (_nm : Unit) => undef, fun (_nm : Unit) => undef, fun (_nm : Unit) => undef, fun (_nm : Unit) => (B true), fun (_nm : Unit) => (B true), fun (_nm : Unit) => undef, fun (_nm : Unit) => undef, fun (_nm : Unit) => undef, fun (_nm : Unit) => undef, fun (_nm : Unit) => undef, fun (_nm : Unit) => undef, fun (_nm : Unit) => undef, fun (_nm : Unit) => undef, fun (_nm : Unit) => undef, fun (_nm : Unit) => undef] () (by kernel_rfl) (by kernel_rfl) ?_ ?_ ?_
            · intro σm m0
              exact ⟨H.grow (m0.mono fun _ h => h.elim), m0⟩
            · refine all_cons (obs_v rfl (by
                  intro k; intro _nm ρ σm hJ hoff hdep
                  have e0 : look 55 ρ 0 = (Sl aa_0 a_0 ca_0) := look_off (hoff 0 rfl) rfl
                  exact dp_v (v := (Sl aa_0 a_0 ca_0)) (wanted_none _ rfl _) (rv_move e0) rfl hJ)) ?_
              refine all_cons (obs_v rfl (by
                  intro k; intro _nm ρ σm hJ hoff hdep
                  have e5 : look 55 ρ 5 = (I s3) := look_off (hoff 5 rfl) rfl
                  exact dp_v (v := (I s3)) (wanted_none _ rfl _) (rv_move e5) rfl hJ)) ?_
              refine all_cons (obs_v rfl (by
                  intro k; intro _nm ρ σm hJ hoff hdep
                  have e17 : look 55 ρ 17 = (Sl aa_0 a_0 ca_0) := hdep 0 rfl rfl 17 rfl
                  have e18 : look 55 ρ 18 = (I s3) := hdep 1 rfl rfl 18 rfl
                  exact dp_v (v := (pt b10 o11)) (wanted_none _ rfl _) (rv_ix Try.underlying23 ti29 e17 e18 hi9) rfl hJ)) ?_
              refine all_cons (obs_v rfl (by
                  intro k; intro _nm ρ σm hJ hoff hdep
                  have e19 : look 55 ρ 19 = (pt b10 o11) := hdep 2 rfl rfl 19 rfl
                  exact dp_v (v := (pt b10 (o11 + 0))) (wanted_none _ rfl _) (rv_fieldAddr (off := 0) (ft := 3) Try.underlying29 rfl ti3 rfl e19) rfl hJ)) ?_
              refine all_cons (by
                  refine ⟨?_, ?_⟩
                  · intro _nm ρ σm hJ hoff hdep
                    have e20 : look 55 ρ 20 = (pt b10 (o11 + 0)) := hdep 3 rfl rfl 20 rfl
                    obtain ⟨H, m⟩ := (show Hp S0 σ0 σm [Ch.ro 0 (Sl aa_0 a_0 ca_0) a_0, Ch.ro 0 (Sl ab_1 b_1 cb_1) b_1] ∧ Md (cov []) σ4 σm from hJ)
                    replace hc12 := (Hs.ro 0 rfl).hmd hx8 hi9 (k := 0) (by decide) hc12 m
                    exact dp_v (v := (I x7.1)) (wanted_none _ rfl _) (rv_load1 Try.underlying3 rfl e20 hc12) rfl hJ
                  trivial) ?_
              refine all_cons (obs_v rfl (by
                  intro k; intro _nm ρ σm hJ hoff hdep
                  have e1 : look 55 ρ 1 = (Sl ab_1 b_1 cb_1) := look_off (hoff 1 rfl) rfl
                  exact dp_v (v := (Sl ab_1 b_1 cb_1)) (wanted_none _ rfl _) (rv_move e1) rfl hJ)) ?_
              refine all_cons (obs_v rfl (by
                  intro k; intro _nm ρ σm hJ hoff hdep
                  have e5 : look 55 ρ 5 = (I s3) := look_off (hoff 5 rfl) rfl
                  exact dp_v (v := (I s3)) (wanted_none _ rfl _) (rv_move e5) rfl hJ)) ?_
              refine all_cons (obs_v rfl (by
                  intro k; intro _nm ρ σm hJ hoff hdep
                  have e22 : look 55 ρ 22 = (Sl ab_1 b_1 cb_1) := hdep 5 rfl rfl 22 rfl
                  have e23 : look 55 ρ 23 = (I s3) := hdep 6 rfl rfl 23 rfl
                  exact dp_v (v := (pt b16 o17)) (wanted_none _ rfl _) (rv_ix Try.underlying23 ti29 e22 e23 hi15) rfl hJ)) ?_
              refine all_cons (obs_v rfl (by
                  intro k; intro _nm ρ σm hJ hoff hdep
                  have e24 : look 55 ρ 24 = (pt b16 o17) := hdep 7 rfl rfl 24 rfl
                  exact dp_v (v := (pt b16 (o17 + 0))) (wanted_none _ rfl _) (rv_fieldAddr (off := 0) (ft := 3) Try.underlying29 rfl ti3 rfl e24) rfl hJ)) ?_
              refine all_cons (by
                  refine ⟨?_, ?_⟩
                  · intro _nm ρ σm hJ hoff hdep
                    have e25 : look 55 ρ 25 = (pt b16 (o17 + 0)) := hdep 8 rfl rfl 25 rfl
                    obtain ⟨H, m⟩ := (show Hp S0 σ0 σm [Ch.ro 0 (Sl aa_0 a_0 ca_0) a_0, Ch.ro 0 (Sl ab_1 b_1 cb_1) b_1] ∧ Md (cov []) σ4 σm from hJ)
                    replace hc18 := (Hs.ro 1 rfl).hmd hx14 hi15 (k := 0) (by decide) hc18 m
                    exact dp_v (v := (I x13.1)) (wanted_none _ rfl _) (rv_load1 Try.underlying3 rfl e25 hc18) rfl hJ
                  trivial) ?_
              refine all_cons (obs_v rfl (by
                  intro k; intro _nm ρ σm hJ hoff hdep
                  have e21 : look 55 ρ 21 = (I x7.1) := hdep 4 rfl rfl 21 rfl
                  have e26 : look 55 ρ 26 = (I x13.1) := hdep 9 rfl rfl 26 rfl
                  exact dp_v (v := (B (x7.1 != x13.1))) (wanted_none _ rfl _) (rv_neq (a := x7.1) (b := x13.1) e21 e26) rfl hJ)) ?_
              refine all_cons (obs_v rfl (by
                  intro k; intro _nm ρ σm hJ hoff hdep
                  have e27 : look 55 ρ 27 = (B (x7.1 != x13.1)) := hdep 10 rfl rfl 27 rfl
                  exact dp_v (v := (B (x7.1 != x13.1))) (wanted_none _ rfl _) (rv_move e27) rfl hJ)) ?_
              refine all_cons (obs_v rfl (by
                  intro k; intro _nm ρ σm hJ hoff hdep
                  have e28 : look 55 ρ 28 = (B (x7.1 != x13.1)) := hdep 11 rfl rfl 28 rfl
                  exact dp_skip (wanted_no rfl (yv_of rfl (e28.trans (congrArg B hb19)))) rfl hJ)) ?_
              refine all_cons (obs_v rfl (by
                  intro k; intro _nm ρ σm hJ hoff hdep
                  have e28 : look 55 ρ 28 = (B (x7.1 != x13.1)) := hdep 11 rfl rfl 28 rfl
                  exact dp_skip (wanted_no rfl (yv_of rfl (e28.trans (congrArg B hb19)))) rfl hJ)) ?_
              refine all_cons (obs_v rfl (by
                  intro k; intro _nm ρ σm hJ hoff hdep
                  have e28 : look 55 ρ 28 = (B (x7.1 != x13.1)) := hdep 11 rfl rfl 28 rfl
                  exact dp_skip (wanted_no rfl (yv_of rfl (e28.trans (congrArg B hb19)))) rfl hJ)) ?_
              refine all_cons (obs_v rfl (by
                  intro k; intro _nm ρ σm hJ hoff hdep
                  have e28 : look 55 ρ 28 = (B (x7.1 != x13.1)) := hdep 11 rfl rfl 28 rfl
                  exact dp_skip (wanted_no rfl (yv_of rfl (e28.trans (congrArg B hb19)))) rfl hJ)) ?_
              refine all_cons (obs_v rfl (by
                  intro k; intro _nm ρ σm hJ hoff hdep
                  have e28 : look 55 ρ 28 = (B (x7.1 != x13.1)) := hdep 11 rfl rfl 28 rfl
                  exact dp_skip (wanted_no rfl (yv_of rfl (e28.trans (congrArg B hb19)))) rfl hJ)) ?_
              refine all_cons (obs_v rfl (by
                  intro k; intro _nm ρ σm hJ hoff hdep
                  have e28 : look 55 ρ 28 = (B (x7.1 != x13.1)) := hdep 11 rfl rfl 28 rfl
                  exact dp_skip (wanted_no rfl (yv_of rfl (e28.trans (congrArg B hb19)))) rfl hJ)) ?_
              refine all_cons (obs_v rfl (by
                  intro k; intro _nm ρ σm hJ hoff hdep
                  have e28 : look 55 ρ 28 = (B (x7.1 != x13.1)) := hdep 11 rfl rfl 28 rfl
                  exact dp_skip (wanted_no rfl (yv_of rfl (e28.trans (congrArg B hb19)))) rfl hJ)) ?_
              refine all_cons (obs_v rfl (by
                  intro k; intro _nm ρ σm hJ hoff hdep
                  have e28 : look 55 ρ 28 = (B (x7.1 != x13.1)) := hdep 11 rfl rfl 28 rfl
                  exact dp_skip (wanted_no rfl (yv_of rfl (e28.trans (congrArg B hb19)))) rfl hJ)) ?_
              refine all_cons (obs_v rfl (by
                  intro k; intro _nm ρ σm hJ hoff hdep
                  have e28 : look 55 ρ 28 = (B (x7.1 != x13.1)) := hdep 11 rfl rfl 28 rfl
                  exact dp_skip (wanted_no rfl (yv_of rfl (e28.trans (congrArg B hb19)))) rfl hJ)) ?_
              refine all_cons (obs_v rfl (by
                  intro k; intro _nm ρ σm hJ hoff hdep
                  have e28 : look 55 ρ 28 = (B (x7.1 != x13.1)) := hdep 11 rfl rfl 28 rfl
                  exact dp_skip (wanted_no rfl (yv_of rfl (e28.trans (congrArg B hb19)))) rfl hJ)) ?_
              refine all_cons (obs_v rfl (by
                  intro k; intro _nm ρ σm hJ hoff hdep
                  have e28 : look 55 ρ 28 = (B (x7.1 != x13.1)) := hdep 11 rfl rfl 28 rfl
                  exact dp_skip (wanted_no rfl (yv_of rfl (e28.trans (congrArg B hb19)))) rfl hJ)) ?_
              refine all_cons (obs_v rfl (by
                  intro k; intro _nm ρ σm hJ hoff hdep
                  have e28 : look 55 ρ 28 = (B (x7.1 != x13.1)) := hdep 11 rfl rfl 28 rfl
                  exact dp_v (v := (B true)) (wanted_none _ rfl _) (rv_pick_t (e28.trans (congrArg B hb19)) rfl) rfl hJ)) ?_
              refine all_cons (obs_v rfl (by
                  intro k; intro _nm ρ σm hJ hoff hdep
                  have e40 : look 55 ρ 40 = (B true) := hdep 23 rfl rfl 40 rfl
                  exact dp_v (v := (B true)) (wanted_none _ rfl _) (rv_move e40) rfl hJ)) ?_
              refine all_cons (obs_v rfl (by
                  intro k; intro _nm ρ σm hJ hoff hdep
                  have e41 : look 55 ρ 41 = (B true) := hdep 24 rfl rfl 41 rfl
                  exact dp_skip (wanted_no rfl (yv_of rfl e41)) rfl hJ)) ?_
              refine all_cons (obs_v rfl (by
                  intro k; intro _nm ρ σm hJ hoff hdep
                  have e41 : look 55 ρ 41 = (B true) := hdep 24 rfl rfl 41 rfl
                  exact dp_skip (wanted_no rfl (yv_of rfl e41)) rfl hJ)) ?_
              refine all_cons (obs_v rfl (by
                  intro k; intro _nm ρ σm hJ hoff hdep
                  have e41 : look 55 ρ 41 = (B true) := hdep 24 rfl rfl 41 rfl
                  exact dp_skip (wanted_no rfl (yv_of rfl e41)) rfl hJ)) ?_
              refine all_cons (obs_v rfl (by
                  intro k; intro _nm ρ σm hJ hoff hdep
                  have e41 : look 55 ρ 41 = (B true) := hdep 24 rfl rfl 41 rfl
                  exact dp_skip (wanted_no rfl (yv_of rfl e41)) rfl hJ)) ?_
              refine all_cons (obs_v rfl (by
                  intro k; intro _nm ρ σm hJ hoff hdep
                  have e41 : look 55 ρ 41 = (B true) := hdep 24 rfl rfl 41 rfl
                  exact dp_skip (wanted_no rfl (yv_of rfl e41)) rfl hJ)) ?_
              refine all_cons (obs_v rfl (by
                  intro k; intro _nm ρ σm hJ hoff hdep
                  have e41 : look 55 ρ 41 = (B true) := hdep 24 rfl rfl 41 rfl
                  exact dp_skip (wanted_no rfl (yv_of rfl e41)) rfl hJ)) ?_
              refine all_cons (obs_v rfl (by
                  intro k; intro _nm ρ σm hJ hoff hdep
                  have e41 : look 55 ρ 41 = (B true) := hdep 24 rfl rfl 41 rfl
                  exact dp_skip (wanted_no rfl (yv_of rfl e41)) rfl hJ)) ?_
              refine all_cons (obs_v rfl (by
                  intro k; intro _nm ρ σm hJ hoff hdep
                  have e41 : look 55 ρ 41 = (B true) := hdep 24 rfl rfl 41 rfl
                  exact dp_skip (wanted_no rfl (yv_of rfl e41)) rfl hJ)) ?_
              refine all_cons (obs_v rfl (by
                  intro k; intro _nm ρ σm hJ hoff hdep
                  have e41 : look 55 ρ 41 = (B true) := hdep 24 rfl rfl 41 rfl
                  exact dp_skip (wanted_no rfl (yv_of rfl e41)) rfl hJ)) ?_
              refine all_cons (obs_v rfl (by
                  intro k; intro _nm ρ σm hJ hoff hdep
                  have e41 : look 55 ρ 41 = (B true) := hdep 24 rfl rfl 41 rfl
                  exact dp_skip (wanted_no rfl (yv_of rfl e41)) rfl hJ)) ?_
              exact all_nil
            · intro _nm ρ σ20 hJ hoff hrel
              have e0 : look 55 ρ 0 = (Sl aa_0 a_0 ca_0) := look_off (hoff 0 rfl) rfl
              have e1 : look 55 ρ 1 = (Sl ab_1 b_1 cb_1) := look_off (hoff 1 rfl) rfl
              have e5 : look 55 ρ 5 = (I s3) := look_off (hoff 5 rfl) rfl
              have e41 : look 55 ρ 41 = (B true) := hrel 24 rfl 41 rfl
              have e46 : look 55 ρ 46 = undef := hrel 29 rfl 46 rfl
              have e51 : look 55 ρ 51 = undef := hrel 34 rfl 51 rfl
              obtain ⟨H, -⟩ := (show Hp S0 σ0 σ20 [Ch.ro 0 (Sl aa_0 a_0 ca_0) a_0, Ch.ro 0 (Sl ab_1 b_1 cb_1) b_1] ∧ Md (cov []) σ4 σ20 from hJ)
              clear hJ Hs
              rw [fr_lookL (L := [(0, (Sl aa_0 a_0 ca_0)), (1, (Sl ab_1 b_1 cb_1)), (5, (I s3)), (41, (B true)), (46, undef), (51, undef)]) ⟨e0, e1, e5, e41, e46, e51, trivial⟩]
              clear hoff hrel e0 e1 e5 e41 e46 e51
              refine st_skip rfl ?_
              refine st_skip rfl ?_
              refine st (v := (B true)) (rv_pick_t rfl rfl) ?_
              refine w_end ?_
              obtain rfl := Option.some.inj h
              exact ⟨rfl, _, σ20, fr_join ⟨rfl, rfl, rfl, rfl, trivial⟩, rfl, H.sel' [0, 1] rfl rfl⟩
          · replace h := bif_f hb19 h
            obtain ⟨x21, hx22, h'⟩ := bind_some h
            clear h
            have h := h'; clear h'
            obtain ⟨b24, o25, hi23, -⟩ := (H.ro 0 rfl).ix hx22
            have hc26 := ((H.ro 0 rfl).at hx22 hi23).snd.snd.int
            obtain ⟨x27, hx28, h'⟩ := bind_some h
            clear h
            have h := h'; clear h'
            obtain ⟨b30, o31, hi29, -⟩ := (H.ro 1 rfl).ix hx28
            have hc32 := ((H.ro 1 rfl).at hx28 hi29).snd.snd.int
            rcases Bool.eq_false_or_eq_true (x21.2.2 != x27.2.2) with hb33 | hb33
            · replace h := bif_t hb33 h
              have Hs := H
              refine rg2 (σ := σ4) (Nm := Unit) 35 [] [[]] [[(0, 0)], [(0, 0)], [(0, 0)], [(0, 0)], [(0, 0)], [(0, 0)], [(0, 0)], [(0, 0)], [(0, 0)], [(0, 0)], [(0, 0)], [(0, 0)], [(0, 0)], [(0, 0)], [(0, 0)], [(0, 0)], [(0, 0)], [(0, 0)], [(0, 0)], [(0, 0)], [(0, 0)], [(0, 0)], [(0, 0)], [(0, 0)], [(0, 0)], [(0, 0)], [(0, 0)], [(0, 0)], [(0, 0)], [(0, 0)], [(0, 0)], [(0, 0)], [(0, 0)], [(0, 0)], [(0, 0)]] 0 [fun (_nm : Unit) => fun σm => Hp S0 σ0 σm [Ch.ro 0 (Sl aa_0 a_0 ca_0) a_0, Ch.ro 0 (Sl ab_1 b_1 cb_1) b_1] ∧ Md (cov []) σ4 σm] [fun (_nm : Unit) => (Sl aa_0 a_0 ca_0), fun (_nm : Unit) => (I s3), fun (_nm : Unit) => (pt b10 o11), fun (_nm : Unit) => (pt b10 (o11 + 0)), fun (_nm : Unit) => (I x7.1), fun (_nm : Unit) => (Sl ab_1 b_1 cb_1), fun (_nm : Unit) => (I s3), fun (_nm : Unit) => (pt b16 o17), fun (_nm : Unit) => (pt b16 (o17 + 0)), fun (_nm : Unit) => (I x13.1), fun (_nm : Unit) => (B (x7.1 != x13.1)), fun (_nm : Unit) => (B (x7.1 != x13.1)), fun (_nm : Unit) => (Sl aa_0 a_0 ca_0), fun (_nm : Unit) => (I s3), fun (_nm : Unit) => (pt b24 o25), fun (_nm : Unit) => (pt b24 (o25 + 2)), fun (_nm : Unit) => (I x21.2.2), fun (_nm : Unit) => (Sl ab_1 b_1 cb_1), fun (_nm : Unit) => (I s3), fun (_nm : Unit) => (pt b30 o31), fun (_nm : Unit) => (pt b30 (o31 + 2)), fun (_nm : Unit) => (I x27.2.2), fun (_nm : Unit) => (B (x21.2.2 != x27.2.2)), fun (_nm : Unit) => (B (x21.2.2 != x27.2.2)), fun (_nm : Unit) => (B (x21.2.2 != x27.2.2)), fun (_nm : Unit) => undef, fun (_nm : Unit) => undef, fun (_nm : Unit) => undef, fun (_nm : Unit) => undef, fun (_nm : Unit) => undef, fun (_nm : Unit) => undef, fun (_nm : Unit) => undef, fun (_nm : Unit) => undef, fun (_nm : Unit) => undef, fun (_nm : Unit) => undef] () (by kernel_rfl) (by kernel_rfl) ?_ ?_ ?_
              · intro σm m0
                exact ⟨H.grow (m0.mono fun _ h => h.elim), m0⟩
              · refine all_cons (obs_v rfl (by
                    intro k; intro _nm ρ σm hJ hoff hdep
                    have e0 : look 55 ρ 0 = (Sl aa_0 a_0 ca_0) := look_off (hoff 0 rfl) rfl
                    exact dp_v (v := (Sl aa_0 a_0 ca_0)) (wanted_none _ rfl _) (rv_move e0) rfl hJ)) ?_
                refine all_cons (obs_v rfl (by
                    intro k; intro _nm ρ σm hJ hoff hdep
                    have e5 : look 55 ρ 5 = (I s3) := look_off (hoff 5 rfl) rfl
                    exact dp_v (v := (I s3)) (wanted_none _ rfl _) (rv_move e5) rfl hJ)) ?_
                refine all_cons (obs_v rfl (by
                    intro k; intro _nm ρ σm hJ hoff hdep
                    have e17 : look 55 ρ 17 = (Sl aa_0 a_0 ca_0) := hdep 0 rfl rfl 17 rfl
                    have e18 : look 55 ρ 18 = (I s3) := hdep 1 rfl rfl 18 rfl
                    exact dp_v (v := (pt b10 o11)) (wanted_none _ rfl _) (rv_ix Try.underlying23 ti29 e17 e18 hi9) rfl hJ)) ?_
                refine all_cons (obs_v rfl (by
                    intro k; intro _nm ρ σm hJ hoff hdep
                    have e19 : look 55 ρ 19 = (pt b10 o11) := hdep 2 rfl rfl 19 rfl
                    exact dp_v (v := (pt b10 (o11 + 0))) (wanted_none _ rfl _) (rv_fieldAddr (off := 0) (ft := 3) Try.underlying29 rfl ti3 rfl e19) rfl hJ)) ?_
                refine all_cons (by
                    refine ⟨?_, ?_⟩
                    · intro _nm ρ σm hJ hoff hdep
                      have e20 : look 55 ρ 20 = (pt b10 (o11 + 0)) := hdep 3 rfl rfl 20 rfl
                      obtain ⟨H, m⟩ := (show Hp S0 σ0 σm [Ch.ro 0 (Sl aa_0 a_0 ca_0) a_0, Ch.ro 0 (Sl ab_1 b_1 cb_1) b_1] ∧ Md (cov []) σ4 σm from hJ)
                      replace hc12 := (Hs.ro 0 rfl).hmd hx8 hi9 (k := 0) (by decide) hc12 m
                      exact dp_v (v := (I x7.1)) (wanted_none _ rfl _) (rv_load1 Try.underlying3 rfl e20 hc12) rfl hJ
                    trivial) ?_
                refine all_cons (obs_v rfl (by
                    intro k; intro _nm ρ σm hJ hoff hdep
                    have e1 : look 55 ρ 1 = (Sl ab_1 b_1 cb_1) := look_off (hoff 1 rfl) rfl
                    exact dp_v (v := (Sl ab_1 b_1 cb_1)) (wanted_none _ rfl _) (rv_move e1) rfl hJ)) ?_
                refine all_cons (obs_v rfl (by
                    intro k; intro _nm ρ σm hJ hoff hdep
                    have e5 : look 55 ρ 5 = (I s3) := look_off (hoff 5 rfl) rfl
                    exact dp_v (v := (I s3)) (wanted_none _ rfl _) (rv_move e5) rfl hJ)) ?_
                refine all_cons (obs_v rfl (by
                    intro k; intro _nm ρ σm hJ hoff hdep
                    have e22 : look 55 ρ 22 = (Sl ab_1 b_1 cb_1) := hdep 5 rfl rfl 22 rfl
                    have e23 : look 55 ρ 23 = (I s3) := hdep 6 rfl rfl 23 rfl
                    exact dp_v (v := (pt b16 o17)) (wanted_none _ rfl _) (rv_ix Try.underlying23 ti29 e22 e23 hi15) rfl hJ)) ?_
                refine all_cons (obs_v rfl (by
                    intro k; intro _nm ρ σm hJ hoff hdep
                    have e24 : look 55 ρ 24 = (pt b16 o17) := hdep 7 rfl rfl 24 rfl
                    exact dp_v (v := (pt b16 (o17 + 0))) (wanted_none _ rfl _) (rv_fieldAddr (off := 0) (ft := 3) Try.underlying29 rfl ti3 rfl e24) rfl hJ)) ?_
                refine all_cons (by
                    refine ⟨?_, ?_⟩
                    · intro _nm ρ σm hJ hoff hdep
                      have e25 : look 55 ρ 25 = (pt b16 (o17 + 0)) := hdep 8 rfl rfl 25 rfl
                      obtain ⟨H, m⟩ := (show Hp S0 σ0 σm [Ch.ro 0 (Sl aa_0 a_0 ca_0) a_0, Ch.ro 0 (Sl ab_1 b_1 cb_1) b_1] ∧ Md (cov []) σ4 σm from hJ)
                      replace hc18 := (Hs.ro 1 rfl).hmd hx14 hi15 (k := 0) (by decide) hc18 m
                      exact dp_v (v := (I x13.1)) (wanted_none _ rfl _) (rv_load1 Try.underlying3 rfl e25 hc18) rfl hJ
                    trivial) ?_
                refine all_cons (obs_v rfl (by
                    intro k; intro _nm ρ σm hJ hoff hdep
                    have e21 : look 55 ρ 21 = (I x7.1) := hdep 4 rfl rfl 21 rfl
                    have e26 : look 55 ρ 26 = (I x13.1) := hdep 9 rfl rfl 26 rfl
                    exact dp_v (v := (B (x7.1 != x13.1))) (wanted_none _ rfl _) (rv_neq (a := x7.1) (b := x13.1) e21 e26) rfl hJ)) ?_
                refine all_cons (obs_v rfl (by
                    intro k; intro _nm ρ σm hJ hoff hdep
                    have e27 : look 55 ρ 27 = (B (x7.1 != x13.1)) := hdep 10 rfl rfl 27 rfl
                    exact dp_v (v := (B (x7.1 != x13.1))) (wanted_none _ rfl _) (rv_move e27) rfl hJ)) ?_
                refine all_cons (obs_v rfl (by
                    intro k; intro _nm ρ σm hJ hoff hdep
                    have e0 : look 55 ρ 0 = (Sl aa_0 a_0 ca_0) := look_off (hoff 0 rfl) rfl
                    have e28 : look 55 ρ 28 = (B (x7.1 != x13.1)) := hdep 11 rfl rfl 28 rfl
                    exact dp_v (v := (Sl aa_0 a_0 ca_0)) (wanted_yes rfl (yv_of rfl (e28.trans (congrArg B hb19)))) (rv_move e0) rfl hJ)) ?_
                refine all_cons (obs_v rfl (by
                    intro k; intro _nm ρ σm hJ hoff hdep
                    have e5 : look 55 ρ 5 = (I s3) := look_off (hoff 5 rfl) rfl
                    have e28 : look 55 ρ 28 = (B (x7.1 != x13.1)) := hdep 11 rfl rfl 28 rfl
                    exact dp_v (v := (I s3)) (wanted_yes rfl (yv_of rfl (e28.trans (congrArg B hb19)))) (rv_move e5) rfl hJ)) ?_
                refine all_cons (obs_v rfl (by
                    intro k; intro _nm ρ σm hJ hoff hdep
                    have e29 : look 55 ρ 29 = (Sl aa_0 a_0 ca_0) := hdep 12 rfl rfl 29 rfl
                    have e30 : look 55 ρ 30 = (I s3) := hdep 13 rfl rfl 30 rfl
                    have e28 : look 55 ρ 28 = (B (x7.1 != x13.1)) := hdep 11 rfl rfl 28 rfl
                    exact dp_v (v := (pt b24 o25)) (wanted_yes rfl (yv_of rfl (e28.trans (congrArg B hb19)))) (rv_ix Try.underlying23 ti29 e29 e30 hi23) rfl hJ)) ?_
                refine all_cons (obs_v rfl (by
                    intro k; intro _nm ρ σm hJ hoff hdep
                    have e31 : look 55 ρ 31 = (pt b24 o25) := hdep 14 rfl rfl 31 rfl
                    have e28 : look 55 ρ 28 = (B (x7.1 != x13.1)) := hdep 11 rfl rfl 28 rfl
                    exact dp_v (v := (pt b24 (o25 + 2))) (wanted_yes rfl (yv_of rfl (e28.trans (congrArg B hb19)))) (rv_fieldAddr (off := 2) (ft := 3) Try.underlying29 rfl ti3 rfl e31) rfl hJ)) ?_
                refine all_cons (by
                    refine ⟨?_, ?_⟩
                    · intro _nm ρ σm hJ hoff hdep
                      have e32 : look 55 ρ 32 = (pt b24 (o25 + 2)) := hdep 15 rfl rfl 32 rfl
                      have e28 : look 55 ρ 28 = (B (x7.1 != x13.1)) := hdep 11 rfl rfl 28 rfl
                      obtain ⟨H, m⟩ := (show Hp S0 σ0 σm [Ch.ro 0 (Sl aa_0 a_0 ca_0) a_0, Ch.ro 0 (Sl ab_1 b_1 cb_1) b_1] ∧ Md (cov []) σ4 σm from hJ)
                      replace hc26 := (Hs.ro 0 rfl).hmd hx22 hi23 (k := 2) (by decide) hc26 m
                      exact dp_v (v := (I x21.2.2)) (wanted_yes rfl (yv_of rfl (e28.trans (congrArg B hb19)))) (rv_load1 Try.underlying3 rfl e32 hc26) rfl hJ
                    trivial) ?_
                refine all_cons (obs_v rfl (by
                    intro k; intro _nm ρ σm hJ hoff hdep
                    have e1 : look 55 ρ 1 = (Sl ab_1 b_1 cb_1) := look_off (hoff 1 rfl) rfl
                    have e28 : look 55 ρ 28 = (B (x7.1 != x13.1)) := hdep 11 rfl rfl 28 rfl
                    exact dp_v (v := (Sl ab_1 b_1 cb_1)) (wanted_yes rfl (yv_of rfl (e28.trans (congrArg B hb19)))) (rv_move e1) rfl hJ)) ?_
                refine all_cons (obs_v rfl (by
                    intro k; intro _nm ρ σm hJ hoff hdep
                    have e5 : look 55 ρ 5 = (I s3) := look_off (hoff 5 rfl) rfl
                    have e28 : look 55 ρ 28 = (B (x7.1 != x13.1)) := hdep 11 rfl rfl 28 rfl
                    exact dp_v (v := (I s3)) (wanted_yes rfl (yv_of rfl (e28.trans (congrArg B hb19)))) (rv_move e5) rfl hJ)) ?_
                refine all_cons (obs_v rfl (by
                    intro k; intro _nm ρ σm hJ hoff hdep
                    have e34 : look 55 ρ 34 = (Sl ab_1 b_1 cb_1) := hdep 17 rfl rfl 34 rfl
                    have e35 : look 55 ρ 35 = (I s3) := hdep 18 rfl rfl 35 rfl
                    have e28 : look 55 ρ 28 = (B (x7.1 != x13.1)) := hdep 11 rfl rfl 28 rfl
                    exact dp_v (v := (pt b30 o31)) (wanted_yes rfl (yv_of rfl (e28.trans (congrArg B hb19)))) (rv_ix Try.underlying23 ti29 e34 e35 hi29) rfl hJ)) ?_
                refine all_cons (obs_v rfl (by
                    intro k; intro _nm ρ σm hJ hoff hdep
                    have e36 : look 55 ρ 36 = (pt b30 o31) := hdep 19 rfl rfl 36 rfl
                    have e28 : look 55 ρ 28 = (B (x7.1 != x13.1)) := hdep 11 rfl rfl 28 rfl
                    exact dp_v (v := (pt b30 (o31 + 2))) (wanted_yes rfl (yv_of rfl (e28.trans (congrArg B hb19)))) (rv_fieldAddr (off := 2) (ft := 3) Try.underlying29 rfl ti3 rfl e36) rfl hJ)) ?_
                refine all_cons (by
                    refine ⟨?_, ?_⟩
                    · intro _nm ρ σm hJ hoff hdep
                      have e37 : look 55 ρ 37 = (pt b30 (o31 + 2)) := hdep 20 rfl rfl 37 rfl
                      have e28 : look 55 ρ 28 = (B (x7.1 != x13.1)) := hdep 11 rfl rfl 28 rfl
                      obtain ⟨H, m⟩ := (show Hp S0 σ0 σm [Ch.ro 0 (Sl aa_0 a_0 ca_0) a_0, Ch.ro 0 (Sl ab_1 b_1 cb_1) b_1] ∧ Md (cov []) σ4 σm from hJ)
                      replace hc32 := (Hs.ro 1 rfl).hmd hx28 hi29 (k := 2) (by decide) hc32 m
                      exact dp_v (v := (I x27.2.2)) (wanted_yes rfl (yv_of rfl (e28.trans (congrArg B hb19)))) (rv_load1 Try.underlying3 rfl e37 hc32) rfl hJ
                    trivial) ?_
                refine all_cons (obs_v rfl (by
                    intro k; intro _nm ρ σm hJ hoff hdep
                    have e33 : look 55 ρ 33 = (I x21.2.2) := hdep 16 rfl rfl 33 rfl
                    have e38 : look 55 ρ 38 = (I x27.2.2) := hdep 21 rfl rfl 38 rfl
                    have e28 : look 55 ρ 28 = (B (x7.1 != x13.1)) := hdep 11 rfl rfl 28 rfl
                    exact dp_v (v := (B (x21.2.2 != x27.2.2))) (wanted_yes rfl (yv_of rfl (e28.trans (congrArg B hb19)))) (rv_neq (a := x21.2.2) (b := x27.2.2) e33 e38) rfl hJ)) ?_
                refine all_cons (obs_v rfl (by
                    intro k; intro _nm ρ σm hJ hoff hdep
                    have e28 : look 55 ρ 28 = (B (x7.1 != x13.1)) := hdep 11 rfl rfl 28 rfl
                    have e39 : look 55 ρ 39 = (B (x21.2.2 != x27.2.2)) := hdep 22 rfl rfl 39 rfl
                    exact dp_v (v := (B (x21.2.2 != x27.2.2))) (wanted_none _ rfl _) (rv_pick_f (e28.trans (congrArg B hb19)) e39) rfl hJ)) ?_
                refine all_cons (obs_v rfl (by
                    intro k; intro _nm ρ σm hJ hoff hdep
                    have e40 : look 55 ρ 40 = (B (x21.2.2 != x27.2.2)) := hdep 23 rfl rfl 40 rfl
                    exact dp_v (v := (B (x21.2.2 != x27.2.2))) (wanted_none _ rfl _) (rv_move e40) rfl hJ)) ?_
                refine all_cons (obs_v rfl (by
                    intro k; intro _nm ρ σm hJ hoff hdep
                    have e41 : look 55 ρ 41 = (B (x21.2.2 != x27.2.2)) := hdep 24 rfl rfl 41 rfl
                    exact dp_skip (wanted_no rfl (yv_of rfl (e41.trans (congrArg B hb33)))) rfl hJ)) ?_
                refine all_cons (obs_v rfl (by
                    intro k; intro _nm ρ σm hJ hoff hdep
                    have e41 : look 55 ρ 41 = (B (x21.2.2 != x27.2.2)) := hdep 24 rfl rfl 41 rfl
                    exact dp_skip (wanted_no rfl (yv_of rfl (e41.trans (congrArg B hb33)))) rfl hJ)) ?_
                refine all_cons (obs_v rfl (by
                    intro k; intro _nm ρ σm hJ hoff hdep
                    have e41 : look 55 ρ 41 = (B (x21.2.2 != x27.2.2)) := hdep 24 rfl rfl 41 rfl
                    exact dp_skip (wanted_no rfl (yv_of rfl (e41.trans (congrArg B hb33)))) rfl hJ)) ?_
                refine all_cons (obs_v rfl (by
                    intro k; intro _nm ρ σm hJ hoff hdep
                    have e41 : look 55 ρ 41 = (B (x21.2.2 != x27.2.2)) := hdep 24 rfl rfl 41 rfl
                    exact dp_skip (wanted_no rfl (yv_of rfl (e41.trans (congrArg B hb33)))) rfl hJ)) ?_
                refine all_cons (obs_v rfl (by
                    intro k; intro _nm ρ σm hJ hoff hdep
                    have e41 : look 55 ρ 41 = (B (x21.2.2 != x27.2.2)) := hdep 24 rfl rfl 41 rfl
                    exact dp_skip (wanted_no rfl (yv_of rfl (e41.trans (congrArg B hb33)))) rfl hJ)) ?_
                refine all_cons (obs_v rfl (by
                    intro k; intro _nm ρ σm hJ hoff hdep
                    have e41 : look 55 ρ 41 = (B (x21.2.2 != x27.2.2)) := hdep 24 rfl rfl 41 rfl
                    exact dp_skip (wanted_no rfl (yv_of rfl (e41.trans (congrArg B hb33)))) rfl hJ)) ?_
                refine all_cons (obs_v rfl (by
                    intro k; intro _nm ρ σm hJ hoff hdep
                    have e41 : look 55 ρ 41 = (B (x21.2.2 != x27.2.2)) := hdep 24 rfl rfl 41 rfl
                    exact dp_skip (wanted_no rfl (yv_of rfl (e41.trans (congrArg B hb33)))) rfl hJ)) ?_
                refine all_cons (obs_v rfl (by
                    intro k; intro _nm ρ σm hJ hoff hdep
                    have e41 : look 55 ρ 41 = (B (x21.2.2 != x27.2.2)) := hdep 24 rfl rfl 41 rfl
                    exact dp_skip (wanted_no rfl (yv_of rfl (e41.trans (congrArg B hb33)))) rfl hJ)) ?_
                refine all_cons (obs_v rfl (by
                    intro k; intro _nm ρ σm hJ hoff hdep
                    have e41 : look 55 ρ 41 = (B (x21.2.2 != x27.2.2)) := hdep 24 rfl rfl 41 rfl
                    exact dp_skip (wanted_no rfl (yv_of rfl (e41.trans (congrArg B hb33)))) rfl hJ)) ?_
                refine all_cons (obs_v rfl (by
                    intro k; intro _nm ρ σm hJ hoff hdep
                    have e41 : look 55 ρ 41 = (B (x21.2.2 != x27.2.2)) := hdep 24 rfl rfl 41 rfl
                    exact dp_skip (wanted_no rfl (yv_of rfl (e41.trans (congrArg B hb33)))) rfl hJ)) ?_
                exact all_nil
              · intro _nm ρ σ34 hJ hoff hrel
                have e0 : look 55 ρ 0 = (Sl aa_0 a_0 ca_0) := look_off (hoff 0 rfl) rfl
                have e1 : look 55 ρ 1 = (Sl ab_1 b_1 cb_1) := look_off (hoff 1 rfl) rfl
                have e5 : look 55 ρ 5 = (I s3) := look_off (hoff 5 rfl) rfl
                have e41 : look 55 ρ 41 = (B (x21.2.2 != x27.2.2)) := hrel 24 rfl 41 rfl
                have e46 : look 55 ρ 46 = undef := hrel 29 rfl 46 rfl
                have e51 : look 55 ρ 51 = undef := hrel 34 rfl 51 rfl
                obtain ⟨H, -⟩ := (show Hp S0 σ0 σ34 [Ch.ro 0 (Sl aa_0 a_0 ca_0) a_0, Ch.ro 0 (Sl ab_1 b_1 cb_1) b_1] ∧ Md (cov []) σ4 σ34 from hJ)
                clear hJ Hs
                rw [fr_lookL (L := [(0, (Sl aa_0 a_0 ca_0)), (1, (Sl ab_1 b_1 cb_1)), (5, (I s3)), (41, (B (x21.2.2 != x27.2.2))), (46, undef), (51, undef)]) ⟨e0, e1, e5, e41, e46, e51, trivial⟩]
                clear hoff hrel e0 e1 e5 e41 e46 e51
                refine st_skip (congrArg some hb33) ?_
                refine st_skip (congrArg some hb33) ?_
                refine st (v := (B true)) (rv_pick_t (congrArg B hb33) rfl) ?_
                refine w_end ?_
                obtain rfl := Option.some.inj h
                exact ⟨rfl, _, σ34, fr_join ⟨rfl, rfl, rfl, rfl, trivial⟩, rfl, H.sel' [0, 1] rfl rfl⟩
            · replace h := bif_f hb33 h
              obtain ⟨x35, hx36, h'⟩ := bind_some h
              clear h
              have h := h'; clear h'
              obtain ⟨b38, o39, hi37, -⟩ := (H.ro 0 rfl).ix hx36
              obtain ⟨v43, hc44, hR42⟩ := ((H.ro 0 rfl).at hx36 hi37).snd.fst.slice
              obtain ⟨a40, c41, rfl⟩ := hR42.isSl
              replace H := H.add (d := Ch.ro 0 (Sl a40 x35.2.1 c41) x35.2.1) hR42 (fun _ h => h)
              clear hR42
              obtain ⟨x45, hx46, h'⟩ := bind_some h
              clear h
              have h := h'; clear h'
              obtain ⟨b48, o49, hi47, -⟩ := (H.ro 2 rfl).ix hx46
              obtain ⟨v53, hc54, hR52⟩ := ((H.ro 2 rfl).at hx46 hi47).snd.fst.slice
              obtain ⟨a50, c51, rfl⟩ := hR52.isSl
              replace H := H.add (d := Ch.ro 0 (Sl a50 x45.2.1 c51) x45.2.1) hR52 (fun _ h => h)
              clear hR52
              have Hs := H
              refine rg2 (σ := σ4) (Nm := Unit) 35 [] [[]] [[(0, 0)], [(0, 0)], [(0, 0)], [(0, 0)], [(0, 0)], [(0, 0)], [(0, 0)], [(0, 0)], [(0, 0)], [(0, 0)], [(0, 0)], [(0, 0)], [(0, 0)], [(0, 0)], [(0, 0)], [(0, 0)], [(0, 0)], [(0, 0)], [(0, 0)], [(0, 0)], [(0, 0)], [(0, 0)], [(0, 0)], [(0, 0)], [(0, 0)], [(0, 0)], [(0, 0)], [(0, 0)], [(0, 0)], [(0, 0)], [(0, 0)], [(0, 0)], [(0, 0)], [(0, 0)], [(0, 0)]] 0 [fun (_nm : Unit) => fun σm => Hp S0 σ0 σm [Ch.ro 0 (Sl a50 x45.2.1 c51) x45.2.1, Ch.ro 0 (Sl a40 x35.2.1 c41) x35.2.1, Ch.ro 0 (Sl aa_0 a_0 ca_0) a_0, Ch.ro 0 (Sl ab_1 b_1 cb_1) b_1] ∧ Md (cov []) σ4 σm] [fun (_nm : Unit) => (Sl aa_0 a_0 ca_0), fun (_nm : Unit) => (I s3), fun (_nm : Unit) => (pt b10 o11), fun (_nm : Unit) => (pt b10 (o11 + 0)), fun (_nm : Unit) => (I x7.1), fun (_nm : Unit) => (Sl ab_1 b_1 cb_1), fun (_nm : Unit) => (I s3), fun (_nm : Unit) => (pt b16 o17), fun (_nm : Unit) => (pt b16 (o17 + 0)), fun (_nm : Unit) => (I x13.1), fun (_nm : Unit) => (B (x7.1 != x13.1)), fun (_nm : Unit) => (B (x7.1 != x13.1)), fun (_nm : Unit) => (Sl aa_0 a_0 ca_0), fun (_nm : Unit) => (I s3), fun (_nm : Unit) => (pt b24 o25), fun (_nm : Unit) => (pt b24 (o25 + 2)), fun (_nm : Unit) => (I x21.2.2), fun (_nm : Unit) => (Sl ab_1 b_1 cb_1), fun (_nm : Unit) => (I s3), fun (_nm : Unit) => (pt b30 o31), fun (_nm : Unit) => (pt b30 (o31 + 2)), fun (_nm : Unit) => (I x27.2.2), fun (_nm : Unit) => (B (x21.2.2 != x27.2.2)), fun (_nm : Unit) => (B (x21.2.2 != x27.2.2)), fun (_nm : Unit) => (B (x21.2.2 != x27.2.2)), fun (_nm : Unit) => (Sl aa_0 a_0 ca_0), fun (_nm : Unit) => (I s3), fun (_nm : Unit) => (pt b38 o39), fun (_nm : Unit) => (pt b38 (o39 + 1)), fun (_nm : Unit) => (Sl a40 x35.2.1 c41), fun (_nm : Unit) => (Sl ab_1 b_1 cb_1), fun (_nm : Unit) => (I s3), fun (_nm : Unit) => (pt b48 o49), fun (_nm : Unit) => (pt b48 (o49 + 1)), fun (_nm : Unit) => (Sl a50 x45.2.1 c51)] () (by kernel_rfl) (by kernel_rfl) ?_ ?_ ?_
              · intro σm m0
                exact ⟨H.grow (m0.mono fun _ h => h.elim), m0⟩
              · refine all_cons (obs_v rfl (by
                    intro k; intro _nm ρ σm hJ hoff hdep
                    have e0 : look 55 ρ 0 = (Sl aa_0 a_0 ca_0) := look_off (hoff 0 rfl) rfl
                    exact dp_v (v := (Sl aa_0 a_0 ca_0)) (wanted_none _ rfl _) (rv_move e0) rfl hJ)) ?_
                refine all_cons (obs_v rfl (by
                    intro k; intro _nm ρ σm hJ hoff hdep
                    have e5 : look 55 ρ 5 = (I s3) := look_off (hoff 5 rfl) rfl
                    exact dp_v (v := (I s3)) (wanted_none _ rfl _) (rv_move e5) rfl hJ)) ?_
                refine all_cons (obs_v rfl (by
                    intro k; intro _nm ρ σm hJ hoff hdep
                    have e17 : look 55 ρ 17 = (Sl aa_0 a_0 ca_0) := hdep 0 rfl rfl 17 rfl
                    have e18 : look 55 ρ 18 = (I s3) := hdep 1 rfl rfl 18 rfl
                    exact dp_v (v := (pt b10 o11)) (wanted_none _ rfl _) (rv_ix Try.underlying23 ti29 e17 e18 hi9) rfl hJ)) ?_
                refine all_cons (obs_v rfl (by
                    intro k; intro _nm ρ σm hJ hoff hdep
                    have e19 : look 55 ρ 19 = (pt b10 o11) := hdep 2 rfl rfl 19 rfl
                    exact dp_v (v := (pt b10 (o11 + 0))) (wanted_none _ rfl _) (rv_fieldAddr (off := 0) (ft := 3) Try.underlying29 rfl ti3 rfl e19) rfl hJ)) ?_
                refine all_cons (by
                    refine ⟨?_, ?_⟩
                    · intro _nm ρ σm hJ hoff hdep
                      have e20 : look 55 ρ 20 = (pt b10 (o11 + 0)) := hdep 3 rfl rfl 20 rfl
                      obtain ⟨H, m⟩ := (show Hp S0 σ0 σm [Ch.ro 0 (Sl a50 x45.2.1 c51) x45.2.1, Ch.ro 0 (Sl a40 x35.2.1 c41) x35.2.1, Ch.ro 0 (Sl aa_0 a_0 ca_0) a_0, Ch.ro 0 (Sl ab_1 b_1 cb_1) b_1] ∧ Md (cov []) σ4 σm from hJ)
                      replace hc12 := (Hs.ro 2 rfl).hmd hx8 hi9 (k := 0) (by decide) hc12 m
                      exact dp_v (v := (I x7.1)) (wanted_none _ rfl _) (rv_load1 Try.underlying3 rfl e20 hc12) rfl hJ
                    trivial) ?_
                refine all_cons (obs_v rfl (by
                    intro k; intro _nm ρ σm hJ hoff hdep
                    have e1 : look 55 ρ 1 = (Sl ab_1 b_1 cb_1) := look_off (hoff 1 rfl) rfl
                    exact dp_v (v := (Sl ab_1 b_1 cb_1)) (wanted_none _ rfl _) (rv_move e1) rfl hJ)) ?_
                refine all_cons (obs_v rfl (by
                    intro k; intro _nm ρ σm hJ hoff hdep
                    have e5 : look 55 ρ 5 = (I s3) := look_off (hoff 5 rfl) rfl
                    exact dp_v (v := (I s3)) (wanted_none _ rfl _) (rv_move e5) rfl hJ)) ?_
                refine all_cons (obs_v rfl (by
                    intro k; intro _nm ρ σm hJ hoff hdep
                    have e22 : look 55 ρ 22 = (Sl ab_1 b_1 cb_1) := hdep 5 rfl rfl 22 rfl
                    have e23 : look 55 ρ 23 = (I s3) := hdep 6 rfl rfl 23 rfl
                    exact dp_v (v := (pt b16 o17)) (wanted_none _ rfl _) (rv_ix Try.underlying23 ti29 e22 e23 hi15) rfl hJ)) ?_
                refine all_cons (obs_v rfl (by
                    intro k; intro _nm ρ σm hJ hoff hdep
                    have e24 : look 55 ρ 24 = (pt b16 o17) := hdep 7 rfl rfl 24 rfl
                    exact dp_v (v := (pt b16 (o17 + 0))) (wanted_none _ rfl _) (rv_fieldAddr (off := 0) (ft := 3) Try.underlying29 rfl ti3 rfl e24) rfl hJ)) ?_
                refine all_cons (by
                    refine ⟨?_, ?_⟩
                    · intro _nm ρ σm hJ hoff hdep
                      have e25 : look 55 ρ 25 = (pt b16 (o17 + 0)) := hdep 8 rfl rfl 25 rfl
                      obtain ⟨H, m⟩ := (show Hp S0 σ0 σm [Ch.ro 0 (Sl a50 x45.2.1 c51) x45.2.1, Ch.ro 0 (Sl a40 x35.2.1 c41) x35.2.1, Ch.ro 0 (Sl aa_0 a_0 ca_0) a_0, Ch.ro 0 (Sl ab_1 b_1 cb_1) b_1] ∧ Md (cov []) σ4 σm from hJ)
                      replace hc18 := (Hs.ro 3 rfl).hmd hx14 hi15 (k := 0) (by decide) hc18 m
                      exact dp_v (v := (I x13.1)) (wanted_none _ rfl _) (rv_load1 Try.underlying3 rfl e25 hc18) rfl hJ
                    trivial) ?_
                refine all_cons (obs_v rfl (by
                    intro k; intro _nm ρ σm hJ hoff hdep
                    have e21 : look 55 ρ 21 = (I x7.1) := hdep 4 rfl rfl 21 rfl
                    have e26 : look 55 ρ 26 = (I x13.1) := hdep 9 rfl rfl 26 rfl
                    exact dp_v (v := (B (x7.1 != x13.1))) (wanted_none _ rfl _) (rv_neq (a := x7.1) (b := x13.1) e21 e26) rfl hJ)) ?_
                refine all_cons (obs_v rfl (by
                    intro k; intro _nm ρ σm hJ hoff hdep
                    have e27 : look 55 ρ 27 = (B (x7.1 != x13.1)) := hdep 10 rfl rfl 27 rfl
                    exact dp_v (v := (B (x7.1 != x13.1))) (wanted_none _ rfl _) (rv_move e27) rfl hJ)) ?_
                refine all_cons (obs_v rfl (by
                    intro k; intro _nm ρ σm hJ hoff hdep
                    have e0 : look 55 ρ 0 = (Sl aa_0 a_0 ca_0) := look_off (hoff 0 rfl) rfl
                    have e28 : look 55 ρ 28 = (B (x7.1 != x13.1)) := hdep 11 rfl rfl 28 rfl
                    exact dp_v (v := (Sl aa_0 a_0 ca_0)) (wanted_yes rfl (yv_of rfl (e28.trans (congrArg B hb19)))) (rv_move e0) rfl hJ)) ?_
                refine all_cons (obs_v rfl (by
                    intro k; intro _nm ρ σm hJ hoff hdep
                    have e5 : look 55 ρ 5 = (I s3) := look_off (hoff 5 rfl) rfl
                    have e28 : look 55 ρ 28 = (B (x7.1 != x13.1)) := hdep 11 rfl rfl 28 rfl
                    exact dp_v (v := (I s3)) (wanted_yes rfl (yv_of rfl (e28.trans (congrArg B hb19)))) (rv_move e5) rfl hJ)) ?_
                refine all_cons (obs_v rfl (by
                    intro k; intro _nm ρ σm hJ hoff hdep
                    have e29 : look 55 ρ 29 = (Sl aa_0 a_0 ca_0) := hdep 12 rfl rfl 29 rfl
                    have e30 : look 55 ρ 30 = (I s3) := hdep 13 rfl rfl 30 rfl
                    have e28 : look 55 ρ 28 = (B (x7.1 != x13.1)) := hdep 11 rfl rfl 28 rfl
                    exact dp_v (v := (pt b24 o25)) (wanted_yes rfl (yv_of rfl (e28.trans (congrArg B hb19)))) (rv_ix Try.underlying23 ti29 e29 e30 hi23) rfl hJ)) ?_
                refine all_cons (obs_v rfl (by
                    intro k; intro _nm ρ σm hJ hoff hdep
                    have e31 : look 55 ρ 31 = (pt b24 o25) := hdep 14 rfl rfl 31 rfl
                    have e28 : look 55 ρ 28 = (B (x7.1 != x13.1)) := hdep 11 rfl rfl 28 rfl
                    exact dp_v (v := (pt b24 (o25 + 2))) (wanted_yes rfl (yv_of rfl (e28.trans (congrArg B hb19)))) (rv_fieldAddr (off := 2) (ft := 3) Try.underlying29 rfl ti3 rfl e31) rfl hJ)) ?_
                refine all_cons (by
                    refine ⟨?_, ?_⟩
                    · intro _nm ρ σm hJ hoff hdep
                      have e32 : look 55 ρ 32 = (pt b24 (o25 + 2)) := hdep 15 rfl rfl 32 rfl
                      have e28 : look 55 ρ 28 = (B (x7.1 != x13.1)) := hdep 11 rfl rfl 28 rfl
                      obtain ⟨H, m⟩ := (show Hp S0 σ0 σm [Ch.ro 0 (Sl a50 x45.2.1 c51) x45.2.1, Ch.ro 0 (Sl a40 x35.2.1 c41) x35.2.1, Ch.ro 0 (Sl aa_0 a_0 ca_0) a_0, Ch.ro 0 (Sl ab_1 b_1 cb_1) b_1] ∧ Md (cov []) σ4 σm from hJ)
                      replace hc26 := (Hs.ro 2 rfl).hmd hx22 hi23 (k := 2) (by decide) hc26 m
                      exact dp_v (v := (I x21.2.2)) (wanted_yes rfl (yv_of rfl (e28.trans (congrArg B hb19)))) (rv_load1 Try.underlying3 rfl e32 hc26) rfl hJ
                    trivial) ?_
                refine all_cons (obs_v rfl (by
                    intro k; intro _nm ρ σm hJ hoff hdep
                    have e1 : look 55 ρ 1 = (Sl ab_1 b_1 cb_1) := look_off (hoff 1 rfl) rfl
                    have e28 : look 55 ρ 28 = (B (x7.1 != x13.1)) := hdep 11 rfl rfl 28 rfl
                    exact dp_v (v := (Sl ab_1 b_1 cb_1)) (wanted_yes rfl (yv_of rfl (e28.trans (congrArg B hb19)))) (rv_move e1) rfl hJ)) ?_
                refine all_cons (obs_v rfl (by
                    intro k; intro _nm ρ σm hJ hoff hdep
                    have e5 : look 55 ρ 5 = (I s3) := look_off (hoff 5 rfl) rfl
                    have e28 : look 55 ρ 28 = (B (x7.1 != x13.1)) := hdep 11 rfl rfl 28 rfl
                    exact dp_v (v := (I s3)) (wanted_yes rfl (yv_of rfl (e28.trans (congrArg B hb19)))) (rv_move e5) rfl hJ)) ?_
                refine all_cons (obs_v rfl (by
                    intro k; intro _nm ρ σm hJ hoff hdep
                    have e34 : look 55 ρ 34 = (Sl ab_1 b_1 cb_1) := hdep 17 rfl rfl 34 rfl
                    have e35 : look 55 ρ 35 = (I s3) := hdep 18 rfl rfl 35 rfl
                    have e28 : look 55 ρ 28 = (B (x7.1 != x13.1)) := hdep 11 rfl rfl 28 rfl
                    exact dp_v (v := (pt b30 o31)) (wanted_yes rfl (yv_of rfl (e28.trans (congrArg B hb19)))) (rv_ix Try.underlying23 ti29 e34 e35 hi29) rfl hJ)) ?_
                refine all_cons (obs_v rfl (by
                    intro k; intro _nm ρ σm hJ hoff hdep
                    have e36 : look 55 ρ 36 = (pt b30 o31) := hdep 19 rfl rfl 36 rfl
                    have e28 : look 55 ρ 28 = (B (x7.1 != x13.1)) := hdep 11 rfl rfl 28 rfl
                    exact dp_v (v := (pt b30 (o31 + 2))) (wanted_yes rfl (yv_of rfl (e28.trans (congrArg B hb19)))) (rv_fieldAddr (off := 2) (ft := 3) Try.underlying29 rfl ti3 rfl e36) rfl hJ)) ?_
                refine all_cons (by
                    refine ⟨?_, ?_⟩
                    · intro _nm ρ σm hJ hoff hdep
                      have e37 : look 55 ρ 37 = (pt b30 (o31 + 2)) := hdep 20 rfl rfl 37 rfl
                      have e28 : look 55 ρ 28 = (B (x7.1 != x13.1)) := hdep 11 rfl rfl 28 rfl
                      obtain ⟨H, m⟩ := (show Hp S0 σ0 σm [Ch.ro 0 (Sl a50 x45.2.1 c51) x45.2.1, Ch.ro 0 (Sl a40 x35.2.1 c41) x35.2.1, Ch.ro 0 (Sl aa_0 a_0 ca_0) a_0, Ch.ro 0 (Sl ab_1 b_1 cb_1) b_1] ∧ Md (cov []) σ4 σm from hJ)
                      replace hc32 := (Hs.ro 3 rfl).hmd hx28 hi29 (k := 2) (by decide) hc32 m
                      exact dp_v (v := (I x27.2.2)) (wanted_yes rfl (yv_of rfl (e28.trans (congrArg B hb19)))) (rv_load1 Try.underlying3 rfl e37 hc32) rfl hJ
                    trivial) ?_
                refine all_cons (obs_v rfl (by
                    intro k; intro _nm ρ σm hJ hoff hdep
                    have e33 : look 55 ρ 33 = (I x21.2.2) := hdep 16 rfl rfl 33 rfl
                    have e38 : look 55 ρ 38 = (I x27.2.2) := hdep 21 rfl rfl 38 rfl
                    have e28 : look 55 ρ 28 = (B (x7.1 != x13.1)) := hdep 11 rfl rfl 28 rfl
                    exact dp_v (v := (B (x21.2.2 != x27.2.2))) (wanted_yes rfl (yv_of rfl (e28.trans (congrArg B hb19)))) (rv_neq (a := x21.2.2) (b := x27.2.2) e33 e38) rfl hJ)) ?_
                refine all_cons (obs_v rfl (by
                    intro k; intro _nm ρ σm hJ hoff hdep
                    have e28 : look 55 ρ 28 = (B (x7.1 != x13.1)) := hdep 11 rfl rfl 28 rfl
                    have e39 : look 55 ρ 39 = (B (x21.2.2 != x27.2.2)) := hdep 22 rfl rfl 39 rfl
                    exact dp_v (v := (B (x21.2.2 != x27.2.2))) (wanted_none _ rfl _) (rv_pick_f (e28.trans (congrArg B hb19)) e39) rfl hJ)) ?_
                refine all_cons (obs_v rfl (by
                    intro k; intro _nm ρ σm hJ hoff hdep
                    have e40 : look 55 ρ 40 = (B (x21.2.2 != x27.2.2)) := hdep 23 rfl rfl 40 rfl
                    exact dp_v (v := (B (x21.2.2 != x27.2.2))) (wanted_none _ rfl _) (rv_move e40) rfl hJ)) ?_
                refine all_cons (obs_v rfl (by
                    intro k; intro _nm ρ σm hJ hoff hdep
                    have e0 : look 55 ρ 0 = (Sl aa_0 a_0 ca_0) := look_off (hoff 0 rfl) rfl
                    have e41 : look 55 ρ 41 = (B (x21.2.2 != x27.2.2)) := hdep 24 rfl rfl 41 rfl
                    exact dp_v (v := (Sl aa_0 a_0 ca_0)) (wanted_yes rfl (yv_of rfl (e41.trans (congrArg B hb33)))) (rv_move e0) rfl hJ)) ?_
                refine all_cons (obs_v rfl (by
                    intro k; intro _nm ρ σm hJ hoff hdep
                    have e5 : look 55 ρ 5 = (I s3) := look_off (hoff 5 rfl) rfl
                    have e41 : look 55 ρ 41 = (B (x21.2.2 != x27.2.2)) := hdep 24 rfl rfl 41 rfl
                    exact dp_v (v := (I s3)) (wanted_yes rfl (yv_of rfl (e41.trans (congrArg B hb33)))) (rv_move e5) rfl hJ)) ?_
                refine all_cons (obs_v rfl (by
                    intro k; intro _nm ρ σm hJ hoff hdep
                    have e42 : look 55 ρ 42 = (Sl aa_0 a_0 ca_0) := hdep 25 rfl rfl 42 rfl
                    have e43 : look 55 ρ 43 = (I s3) := hdep 26 rfl rfl 43 rfl
                    have e41 : look 55 ρ 41 = (B (x21.2.2 != x27.2.2)) := hdep 24 rfl rfl 41 rfl
                    exact dp_v (v := (pt b38 o39)) (wanted_yes rfl (yv_of rfl (e41.trans (congrArg B hb33)))) (rv_ix Try.underlying23 ti29 e42 e43 hi37) rfl hJ)) ?_
                refine all_cons (obs_v rfl (by
                    intro k; intro _nm ρ σm hJ hoff hdep
                    have e44 : look 55 ρ 44 = (pt b38 o39) := hdep 27 rfl rfl 44 rfl
                    have e41 : look 55 ρ 41 = (B (x21.2.2 != x27.2.2)) := hdep 24 rfl rfl 41 rfl
                    exact dp_v (v := (pt b38 (o39 + 1))) (wanted_yes rfl (yv_of rfl (e41.trans (congrArg B hb33)))) (rv_fieldAddr (off := 1) (ft := 27) Try.underlying29 rfl ti27 rfl e44) rfl hJ)) ?_
                refine all_cons (by
                    refine ⟨?_, ?_⟩
                    · intro _nm ρ σm hJ hoff hdep
                      have e45 : look 55 ρ 45 = (pt b38 (o39 + 1)) := hdep 28 rfl rfl 45 rfl
                      have e41 : look 55 ρ 41 = (B (x21.2.2 != x27.2.2)) := hdep 24 rfl rfl 41 rfl
                      obtain ⟨H, m⟩ := (show Hp S0 σ0 σm [Ch.ro 0 (Sl a50 x45.2.1 c51) x45.2.1, Ch.ro 0 (Sl a40 x35.2.1 c41) x35.2.1, Ch.ro 0 (Sl aa_0 a_0 ca_0) a_0, Ch.ro 0 (Sl ab_1 b_1 cb_1) b_1] ∧ Md (cov []) σ4 σm from hJ)
                      replace hc44 := (Hs.ro 2 rfl).hmd hx36 hi37 (k := 1) (by decide) hc44 m
                      exact dp_v (v := (Sl a40 x35.2.1 c41)) (wanted_yes rfl (yv_of rfl (e41.trans (congrArg B hb33)))) (rv_load1 Try.underlying27 rfl e45 hc44) rfl hJ
                    trivial) ?_
                refine all_cons (obs_v rfl (by
                    intro k; intro _nm ρ σm hJ hoff hdep
                    have e1 : look 55 ρ 1 = (Sl ab_1 b_1 cb_1) := look_off (hoff 1 rfl) rfl
                    have e41 : look 55 ρ 41 = (B (x21.2.2 != x27.2.2)) := hdep 24 rfl rfl 41 rfl
                    exact dp_v (v := (Sl ab_1 b_1 cb_1)) (wanted_yes rfl (yv_of rfl (e41.trans (congrArg B hb33)))) (rv_move e1) rfl hJ)) ?_
                refine all_cons (obs_v rfl (by
                    intro k; intro _nm ρ σm hJ hoff hdep
                    have e5 : look 55 ρ 5 = (I s3) := look_off (hoff 5 rfl) rfl
                    have e41 : look 55 ρ 41 = (B (x21.2.2 != x27.2.2)) := hdep 24 rfl rfl 41 rfl
                    exact dp_v (v := (I s3)) (wanted_yes rfl (yv_of rfl (e41.trans (congrArg B hb33)))) (rv_move e5) rfl hJ)) ?_
                refine all_cons (obs_v rfl (by
                    intro k; intro _nm ρ σm hJ hoff hdep
                    have e47 : look 55 ρ 47 = (Sl ab_1 b_1 cb_1) := hdep 30 rfl rfl 47 rfl
                    have e48 : look 55 ρ 48 = (I s3) := hdep 31 rfl rfl 48 rfl
                    have e41 : look 55 ρ 41 = (B (x21.2.2 != x27.2.2)) := hdep 24 rfl rfl 41 rfl
                    exact dp_v (v := (pt b48 o49)) (wanted_yes rfl (yv_of rfl (e41.trans (congrArg B hb33)))) (rv_ix Try.underlying23 ti29 e47 e48 hi47) rfl hJ)) ?_
                refine all_cons (obs_v rfl (by
                    intro k; intro _nm ρ σm hJ hoff hdep
                    have e49 : look 55 ρ 49 = (pt b48 o49) := hdep 32 rfl rfl 49 rfl
                    have e41 : look 55 ρ 41 = (B (x21.2.2 != x27.2.2)) := hdep 24 rfl rfl 41 rfl
                    exact dp_v (v := (pt b48 (o49 + 1))) (wanted_yes rfl (yv_of rfl (e41.trans (congrArg B hb33)))) (rv_fieldAddr (off := 1) (ft := 27) Try.underlying29 rfl ti27 rfl e49) rfl hJ)) ?_
                refine all_cons (by
                    refine ⟨?_, ?_⟩
                    · intro _nm ρ σm hJ hoff hdep
                      have e50 : look 55 ρ 50 = (pt b48 (o49 + 1)) := hdep 33 rfl rfl 50 rfl
                      have e41 : look 55 ρ 41 = (B (x21.2.2 != x27.2.2)) := hdep 24 rfl rfl 41 rfl
                      obtain ⟨H, m⟩ := (show Hp S0 σ0 σm [Ch.ro 0 (Sl a50 x45.2.1 c51) x45.2.1, Ch.ro 0 (Sl a40 x35.2.1 c41) x35.2.1, Ch.ro 0 (Sl aa_0 a_0 ca_0) a_0, Ch.ro 0 (Sl ab_1 b_1 cb_1) b_1] ∧ Md (cov []) σ4 σm from hJ)
                      replace hc54 := (Hs.ro 3 rfl).hmd hx46 hi47 (k := 1) (by decide) hc54 m
                      exact dp_v (v := (Sl a50 x45.2.1 c51)) (wanted_yes rfl (yv_of rfl (e41.trans (congrArg B hb33)))) (rv_load1 Try.underlying27 rfl e50 hc54) rfl hJ
                    trivial) ?_
                exact all_nil
              · intro _nm ρ σ55 hJ hoff hrel
                have e0 : look 55 ρ 0 = (Sl aa_0 a_0 ca_0) := look_off (hoff 0 rfl) rfl
                have e1 : look 55 ρ 1 = (Sl ab_1 b_1 cb_1) := look_off (hoff 1 rfl) rfl
                have e5 : look 55 ρ 5 = (I s3) := look_off (hoff 5 rfl) rfl
                have e41 : look 55 ρ 41 = (B (x21.2.2 != x27.2.2)) := hrel 24 rfl 41 rfl
                have e46 : look 55 ρ 46 = (Sl a40 x35.2.1 c41) := hrel 29 rfl 46 rfl
                have e51 : look 55 ρ 51 = (Sl a50 x45.2.1 c51) := hrel 34 rfl 51 rfl
                obtain ⟨H, -⟩ := (show Hp S0 σ0 σ55 [Ch.ro 0 (Sl a50 x45.2.1 c51) x45.2.1, Ch.ro 0 (Sl a40 x35.2.1 c41) x35.2.1, Ch.ro 0 (Sl aa_0 a_0 ca_0) a_0, Ch.ro 0 (Sl ab_1 b_1 cb_1) b_1] ∧ Md (cov []) σ4 σ55 from hJ)
                clear hJ Hs
                rw [fr_lookL (L := [(0, (Sl aa_0 a_0 ca_0)), (1, (Sl ab_1 b_1 cb_1)), (5, (I s3)), (41, (B (x21.2.2 != x27.2.2))), (46, (Sl a40 x35.2.1 c41)), (51, (Sl a50 x45.2.1 c51))]) ⟨e0, e1, e5, e41, e46, e51, trivial⟩]
                clear hoff hrel e0 e1 e5 e41 e46 e51
                obtain ⟨r56, hx57, h'⟩ := bind_some h
                clear h
                have h := h'; clear h'
                have hc58 := c_laws_equalInts (aa_0 := a40) (ca_0 := c41) (ab_1 := a50) (cb_1 := c51) hx57
                refine st_call (cx_call hc58 (ent_f hc58.fn rfl) hn0 (show Hp S0 σ0 _ ([Ch.ro 0 (Sl a40 x35.2.1 c41) x35.2.1, Ch.ro 0 (Sl a50 x45.2.1 c51) x45.2.1] ++ [Ch.ro 0 (Sl a50 x45.2.1 c51) x45.2.1, Ch.ro 0 (Sl a40 x35.2.1 c41) x35.2.1, Ch.ro 0 (Sl aa_0 a_0 ca_0) a_0, Ch.ro 0 (Sl ab_1 b_1 cb_1) b_1]) from (H.sel' [1, 0, 0, 1, 2, 3] rfl rfl))) (wanted_yes rfl (by exact (congrArg some hb33))) ?_
                rintro _ σ59 ⟨_, ⟨rfl, rfl⟩, H, -⟩
                replace H : Hp S0 σ0 σ59 [Ch.ro 0 (Sl a50 x45.2.1 c51) x45.2.1, Ch.ro 0 (Sl a40 x35.2.1 c41) x35.2.1, Ch.ro 0 (Sl aa_0 a_0 ca_0) a_0, Ch.ro 0 (Sl ab_1 b_1 cb_1) b_1] := H
                refine st_g (v := (B (!r56))) (congrArg some hb33) (rv_not rfl) ?_
                refine st (v := (B (!r56))) (rv_pick_f (congrArg B hb33) rfl) ?_
                refine w_end ?_
                obtain rfl := Option.some.inj h
                exact ⟨rfl, _, σ59, fr_join ⟨rfl, rfl, rfl, rfl, trivial⟩, rfl, H.sel' [2, 3] rfl rfl⟩
        · clear hj
          have h := h'
          clear h' H
          rintro e a w ⟨rfl, ρ, σ60, rfl, rfl, H⟩
          refine q_then ?_
          refine cd_cond o6 rfl (fun hb61 => ?_) (fun hb61 => ?_)
          · replace h := bif_t hb61 h
            refine c_seq ?_
            refine rg ?_
            refine st (v := (B false)) (rv_assign rfl) ?_
            refine w_end ?_
            refine q_then ?_
            refine c_ret ?_
            refine q_blk_r ?_
            refine q_then_r ?_
            refine q_then_r ?_
            refine q_blk_r ?_
            obtain rfl := Option.some.inj h
            obtain rfl := hres _ rfl
            exact .inr (⟨_, rfl, rfl, _, σ60, fr_join ⟨rfl, trivial⟩, rfl, H.sel' [] rfl rfl⟩)
          · replace h := bif_f hb61 h
            refine c_skip ?_
            refine q_blk ?_
            refine q_then ?_
            refine rg ?_
            refine st (v := (I s3)) (rv_move rfl) ?_
            refine st (v := (I (w64 (s3 + 1)))) (rv_add (a := s3) (b := 1) rfl rfl) ?_
            refine st (v := (I (w64 (s3 + 1)))) (rv_assign rfl) ?_
            refine w_end ?_
            refine q_then ?_
            obtain rfl := Option.some.inj h
            exact ⟨_, rfl, _, σ60, fr_join ⟨rfl, rfl, rfl, trivial⟩, rfl, H.sel' [0, 1] rfl rfl⟩
      · replace h := bif_f hb5 h
        refine c_exit ?_
        refine q_then_x ?_
        refine q_then_x ?_
        refine q_blk_hit ?_
        obtain rfl := Option.some.inj h
        obtain rfl := hres _ rfl
        exact .inl ⟨_, rfl, rfl, _, σ4, fr_join trivial, rfl, H.sel' [] rfl rfl⟩
    · clear hj
      have h := h'
      clear h' H
      rintro e a w (⟨t62, rfl, rfl, ρ, σ63, rfl, rfl, H⟩ | ⟨t64, rfl, rfl, ρ, σ65, rfl, rfl, H⟩)
      · replace h := selim_l h
        refine q_then ?_
        refine c_seq ?_
        refine rg ?_
        refine st (v := (B true)) (rv_assign rfl) ?_
        refine w_end ?_
        refine q_then ?_
        refine c_ret ?_
        obtain rfl := Option.some.inj h
        exact fin_ret (v := (B true)) (results_ok Try.results19 (res_tmp (v := (B true)) rfl res_nil) rfl) ⟨rfl, rfl⟩ (H.sel' [] rfl rfl)
      · replace h := selim_r h
        refine q_then_r ?_
        obtain rfl := Option.some.inj h
        exact fin_ret (v := (B t64)) (results_ok Try.results19 (res_tmp (v := (B t64)) rfl res_nil) rfl) ⟨rfl, rfl⟩ (H.sel' [] rfl rfl)

end Go.Vs
